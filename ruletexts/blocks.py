"""Texts cut into blocks within blocks, so that what is alike in them bears one name.

A text's letters are a row. A row is cut into blocks; the blocks' names are the next row, and so on.
Whether two neighbours in a row stand in one block is told by these two alone, so the same letters
are cut in the same way wherever they stand. Only a row's first and last block may grow when
something is put before or behind the text: they are left in their row, and only the names of the
blocks between them go on into the next.

A row holds pairs: a name, and how often it stands there in succession. The names below 256 are the
bytes; the others are given to blocks as they come.
"""

BYTES = 256


class Names:
    """The names of blocks: blocks of the same parts bear the same name."""

    def __init__(self):
        self.known = {}
        self.parts = [()] * BYTES
        self.sizes = [1] * BYTES

    def name_of(self, block):
        """Give the block's name, a new one if it has none."""
        # What stands alone keeps its name, however many rows it goes through.
        if len(block) == 1 and block[0][1] == 1:
            return block[0][0]
        key = tuple(block)
        if key not in self.known:
            self.known[key] = len(self.parts)
            self.parts.append(key)
            self.sizes.append(sum([self.sizes[name] * times for name, times in block]))
        return self.known[key]


class Layers:
    """A text, row by row: its rows' first blocks, the one block of its last row, its rows' last blocks."""

    def __init__(self, fronts, middle, backs):
        self.fronts = fronts
        self.middle = middle
        self.backs = backs


def text_layers(k, r, names):
    """Give the layers of the text that the list makes."""
    made = {}
    for thing in things_reached(k, r):
        if thing < BYTES:
            made[thing] = Layers([], [(thing, 1)], [])
        else:
            place = 2 * (thing - BYTES)
            made[thing] = joined_layers(made[r[place]], made[r[place + 1]], names)
    return made[BYTES + k - 1]


def things_reached(k, r):
    """Give the things that the text is made of, each behind those that it names."""
    # The other rules are left out, as they may make texts of any length.
    reached = {BYTES + k - 1: True}
    for j in range(k - 1, -1, -1):
        if BYTES + j in reached:
            reached[r[2 * j]] = True
            reached[r[2 * j + 1]] = True
    return sorted(reached)


def joined_layers(left, right, names):
    """Give the layers of the text that is the left one and then the right one."""
    fronts = []
    backs = []
    between = []
    level = 0
    while True:
        row = edge(left.backs, left.middle, level) + between + edge(right.fronts, right.middle, level)
        blocks = cut(row, level)
        left_goes_on = level < len(left.fronts)
        right_goes_on = level < len(right.backs)
        if len(blocks) < 2 and not left_goes_on and not right_goes_on:
            return Layers(fronts, blocks[0] if blocks else [], backs)
        fronts.append(left.fronts[level] if left_goes_on else blocks.pop(0))
        backs.append(right.backs[level] if right_goes_on else blocks.pop())
        between = [(names.name_of(block), 1) for block in blocks]
        level += 1


def edge(blocks, middle, level):
    """Give what a text has at one end of its row of this level."""
    if level < len(blocks):
        return blocks[level]
    return middle if level == len(blocks) else []


def cut(row, level):
    """Cut a row into blocks, by one of three ways in turns."""
    # Once what is alike lies together, neighbours climb or fall: of each two, one at least is put
    # together with another by the climbs or by the falls then. So few rows follow.
    turn = level % 3
    if turn == 0:
        return cut_alike(row)
    return cut_slopes(row, 1 if turn == 1 else -1)


def cut_alike(row):
    """Put together what is alike: each block is one name, and how often it stands there."""
    blocks = []
    for name, times in row:
        if blocks and blocks[-1][0][0] == name:
            blocks[-1] = [(name, blocks[-1][0][1] + times)]
        else:
            blocks.append([(name, times)])
    return blocks


def cut_slopes(row, way):
    """Put together names that climb (way 1) or fall (way -1)."""
    blocks = []
    for pair in row:
        if blocks and (pair[0] - blocks[-1][-1][0]) * way > 0:
            blocks[-1].append(pair)
        else:
            blocks.append([pair])
    return blocks


def letters_alike(one, other, names):
    """Give how many letters two texts begin with alike, by their layers."""
    first = pairs_ahead(one)
    second = pairs_ahead(other)
    letters = 0
    while first and second:
        size = names.sizes[first[-1][0]]
        other_size = names.sizes[second[-1][0]]
        if first[-1][0] == second[-1][0]:
            letters += size * pass_alike(first, second)
        elif size == 1 and other_size == 1:
            return letters
        elif size >= other_size:
            open_block(first, names)
        else:
            open_block(second, names)
    return letters


def pairs_ahead(text):
    """Give the pairs that make the text, the first of them last in the list."""
    ahead = []
    for block in text.backs:
        ahead.extend(list(reversed(block)))
    ahead.extend(list(reversed(text.middle)))
    for block in reversed(text.fronts):
        ahead.extend(list(reversed(block)))
    return ahead


def pass_alike(first, second):
    """Take the name that both have ahead from both, as often as both have it; give how often."""
    times = min(first[-1][1], second[-1][1])
    take(first, times)
    take(second, times)
    return times


def take(ahead, times):
    """Take the name that is ahead away, so many times."""
    pair = ahead.pop()
    if pair[1] > times:
        ahead.append((pair[0], pair[1] - times))


def open_block(ahead, names):
    """Put a block's parts in the place of its name, once, where it is ahead."""
    name = ahead[-1][0]
    take(ahead, 1)
    ahead.extend(list(reversed(names.parts[name])))

"""Lists of rules that tests are made of, and texts written out where they are short."""

import itertools

BOUND = 2 ** 60


def doubling(k):
    """k rules, of which rule j makes 2^(j + 1) letters."""
    r = [97, 97]
    for j in range(1, k):
        r += [255 + j, 255 + j]
    return r


def row_by_first(k):
    """k rules, each naming the one before it as its first thing: k + 1 letters."""
    r = [97, 98]
    for j in range(1, k):
        r += [255 + j, 99]
    return r


def row_by_second(k):
    """k rules, each naming the one before it as its second thing: k + 1 letters."""
    r = [97, 98]
    for j in range(1, k):
        r += [99, 255 + j]
    return r


def row_by_turns(k):
    """k rules, each naming the one before it, by its first thing and by its second in turns."""
    r = [97, 98]
    for j in range(1, k):
        r += [255 + j, j % 256] if j % 2 else [j % 256, 255 + j]
    return r


def doubled(r, k):
    """The list with rules behind it up to k, each naming the one before it by both things."""
    for j in range(len(r) // 2, k):
        r = r + [255 + j, 255 + j]
    return r


def row_behind_doubling(k, start):
    """start rules that double, then a row of rules by turns up to k."""
    r = doubled([97, 98], start)
    for j in range(start, k):
        r += [255 + j, j % 256] if j % 2 else [j % 256, 255 + j]
    return r


def fibonacci(k):
    """k rules, each of the two before it."""
    r = [97, 98, 256, 97]
    for j in range(2, k):
        r += [255 + j, 254 + j]
    return r[:2 * k]


def one_below_bound():
    """A list whose text has 2^60 - 1 letters: 2^59 + 2^58 + .. + 2 + 1."""
    r = doubling(59)
    last = 256 + 58
    for thing in list(range(256 + 57, 255, -1)) + [97]:
        r += [last, thing]
        last = 255 + len(r) // 2
    return r


def things_reached(k, r):
    """The things that the text is made of, each behind those that it names."""
    reached = {255 + k}
    for j in range(k - 1, -1, -1):
        if 256 + j in reached:
            reached.update(r[2 * j:2 * j + 2])
    return sorted(reached)


def reached_rules(k, r):
    """The same list without the rules that the last doesn't reach."""
    kept = []
    made = {thing: thing for thing in range(256)}
    for thing in things_reached(k, r):
        if thing > 255:
            kept += [made[r[2 * (thing - 256)]], made[r[2 * (thing - 256) + 1]]]
            made[thing] = 255 + len(kept) // 2
    return len(kept) // 2, kept


def written_out(k, r):
    """The text, letter by letter; None where a rule names what it may not."""
    if any(max(r[2 * j:2 * j + 2]) >= 256 + j for j in range(k)):
        return None
    made = {}
    # Rules that the last doesn't reach aren't written out: they may be however long.
    for thing in things_reached(k, r):
        j = thing - 256
        made[thing] = [thing] if j < 0 else made[r[2 * j]] + made[r[2 * j + 1]]
    return made[255 + k]


def small_lists(things, most):
    """Every list of 1 to `most` rules over these things that is one."""
    for k in range(1, most + 1):
        for r in itertools.product(things, repeat=2 * k):
            if written_out(k, r) is not None:
                yield k, list(r)


def drawn_list(draw, letters, most):
    """A list of 1 to `most` rules that `draw`, a random.Random, makes."""
    k = draw.randint(1, most)
    r = []
    for j in range(k):
        for _ in range(2):
            near = max(0, j - 1 - int(draw.expovariate(0.7)))
            r.append(256 + near if j and draw.random() < 0.7 else draw.choice(letters))
    return k, r


def drawn_long_list(draw, letters, k, bound):
    """A list of k rules with a text of fewer than `bound` letters, as long as chance makes it."""
    r = [draw.choice(letters), draw.choice(letters)]
    sizes = dict.fromkeys(range(256), 1)
    sizes[256] = 2
    for j in range(1, k):
        things = [255 + j, max(256, 255 + j - int(draw.expovariate(0.3)))]
        if draw.random() < 0.5:
            things.reverse()
        if sizes[things[0]] + sizes[things[1]] >= bound - k:
            things = [255 + j, draw.choice(letters)]
        r += things
        sizes[256 + j] = sizes[things[0]] + sizes[things[1]]
    return k, r


def cut_otherwise(draw, k, r, most):
    """A list with the same text whose rules meet elsewhere: (xy)z for x(yz), and the other way round."""
    maker = Maker()
    made = {thing: thing for thing in range(256)}
    for j in range(k):
        first, second = made[r[2 * j]], made[r[2 * j + 1]]
        spare = most - len(maker.r) // 2 - (k - j) - 1
        if spare > 0 and first > 255 and draw.random() < 0.6:
            start, end = maker.things_of(first)
            first, second = start, maker.both(end, second)
        elif spare > 0 and second > 255 and draw.random() < 0.9:
            start, end = maker.things_of(second)
            first, second = maker.both(first, start), end
        made[256 + j] = maker.both(first, second)
    return maker.list_to(made[255 + k])


def sizes_of(k, r):
    """How many letters each thing makes."""
    sizes = dict.fromkeys(range(256), 1)
    for j in range(k):
        sizes[256 + j] = sizes[r[2 * j]] + sizes[r[2 * j + 1]]
    return sizes


def beginning(k, r, size):
    """A list, of more than 256 rules maybe, whose text is the first `size` letters, 2 or more."""
    sizes = sizes_of(k, r)
    ahead = [255 + k]
    things = []
    left = size
    while left:
        thing = ahead.pop()
        if sizes[thing] <= left:
            things.append(thing)
            left -= sizes[thing]
        else:
            ahead += r[2 * (thing - 256):2 * (thing - 256) + 2][::-1]
    if len(things) == 1:
        return things[0] - 255, r[:2 * (things[0] - 255)]
    r = list(r)
    last = things[0]
    for thing in things[1:]:
        r += [last, thing]
        last = 255 + len(r) // 2
    return len(r) // 2, r


def with_letter(k, r, place, letter):
    """A list whose text has this letter at the place, and else is the same."""
    sizes = sizes_of(k, r)
    thing = 255 + k
    way = []
    while thing > 255:
        first, second = r[2 * (thing - 256)], r[2 * (thing - 256) + 1]
        way.append((first, second, place < sizes[first]))
        if place < sizes[first]:
            thing = first
        else:
            place -= sizes[first]
            thing = second
    changed = letter
    r = list(r)
    for first, second, by_first in reversed(way):
        r += [changed, second] if by_first else [first, changed]
        changed = 255 + len(r) // 2
    return reached_rules(len(r) // 2, r)


class Maker:
    """A list in the making: each call gives the thing that makes what is asked for."""

    def __init__(self):
        self.r = []
        self.known = {}

    def both(self, first, second):
        """The thing that makes what first makes and then what second makes."""
        if (first, second) not in self.known:
            self.r += [first, second]
            self.known[first, second] = 255 + len(self.r) // 2
        return self.known[first, second]

    def things_of(self, thing):
        """The two things of the rule that this thing names."""
        return tuple(self.r[2 * (thing - 256):2 * (thing - 256) + 2])

    def row(self, things):
        """The thing that makes what these make one after the other, put on from the left."""
        made = things[0]
        for thing in things[1:]:
            made = self.both(made, thing)
        return made

    def row_from_right(self, things):
        """The same, put on from the right."""
        made = things[-1]
        for thing in reversed(things[:-1]):
            made = self.both(thing, made)
        return made

    def power(self, thing, times, smallest_first=False):
        """The thing that makes what this one makes, times (1 or more) times."""
        parts = []
        while times:
            if times % 2:
                parts.append(thing)
            times //= 2
            if times:
                thing = self.both(thing, thing)
        return self.row(parts if smallest_first else parts[::-1])

    def list_to(self, thing):
        """k and r of the list whose text is what this thing, a rule, makes."""
        return thing - 255, self.r[:2 * (thing - 255)]

    def list_of(self, first, second):
        """k and r of the list whose text is what these two make."""
        # Put behind all others, known or not: the last rule is the one that counts.
        r = self.r + [first, second]
        return len(r) // 2, r


def marked_list():
    """x (ab)^(2^58 - 1) y (cd)^(2^58 - 1) z: 2^60 - 1 letters, y in the middle."""
    maker = Maker()
    start = maker.both(120, maker.power(maker.both(97, 98), 2 ** 58 - 1))
    end = maker.row([121, maker.power(maker.both(99, 100), 2 ** 58 - 1), 122])
    return maker.list_of(start, end)


class ReadOnlyList(list):
    """A list that fails at once when something would change it, even for a while."""

    def refuse(self, *args, **kwargs):
        raise AssertionError("what was handed in was changed")

    __setitem__ = __delitem__ = __iadd__ = __imul__ = refuse
    append = extend = insert = pop = remove = clear = sort = reverse = refuse

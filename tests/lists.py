"""Lists of rules that tests are made of, and texts written out where they are short."""

import itertools

BOUND = 2 ** 60


def doubling(k):
    """k rules, of which rule j makes 2^(j + 1) letters."""
    r = [97, 97]
    for j in range(1, k):
        r += [255 + j, 255 + j]
    return r


def row_by_first(k):
    """k rules, each naming the one before it as its first thing: k + 1 letters."""
    r = [97, 98]
    for j in range(1, k):
        r += [255 + j, 99]
    return r


def row_by_second(k):
    """k rules, each naming the one before it as its second thing: k + 1 letters."""
    r = [97, 98]
    for j in range(1, k):
        r += [99, 255 + j]
    return r


def row_by_turns(k):
    """k rules, each naming the one before it, by its first thing and by its second in turns."""
    r = [97, 98]
    for j in range(1, k):
        r += [255 + j, j % 256] if j % 2 else [j % 256, 255 + j]
    return r


def doubled(r, k):
    """The list with rules behind it up to k, each naming the one before it by both things."""
    for j in range(len(r) // 2, k):
        r = r + [255 + j, 255 + j]
    return r


def row_behind_doubling(k, start):
    """start rules that double, then a row of rules by turns up to k."""
    r = doubled([97, 98], start)
    for j in range(start, k):
        r += [255 + j, j % 256] if j % 2 else [j % 256, 255 + j]
    return r


def fibonacci(k):
    """k rules, each of the two before it."""
    r = [97, 98, 256, 97]
    for j in range(2, k):
        r += [255 + j, 254 + j]
    return r[:2 * k]


def one_below_bound():
    """A list whose text has 2^60 - 1 letters: 2^59 + 2^58 + .. + 2 + 1."""
    r = doubling(59)
    last = 256 + 58
    for thing in list(range(256 + 57, 255, -1)) + [97]:
        r += [last, thing]
        last = 255 + len(r) // 2
    return r


def written_out(k, r):
    """The text, letter by letter; None where a rule names what it may not."""
    if any(max(r[2 * j:2 * j + 2]) >= 256 + j for j in range(k)):
        return None
    reached = {255 + k}
    for j in range(k - 1, -1, -1):
        if 256 + j in reached:
            reached.update(r[2 * j:2 * j + 2])
    made = {}
    # Rules that the last doesn't reach aren't written out: they may be however long.
    for thing in sorted(reached):
        j = thing - 256
        made[thing] = [thing] if j < 0 else made[r[2 * j]] + made[r[2 * j + 1]]
    return made[255 + k]


def small_lists(things, most):
    """Every list of 1 to `most` rules over these things that is one."""
    for k in range(1, most + 1):
        for r in itertools.product(things, repeat=2 * k):
            if written_out(k, r) is not None:
                yield k, list(r)


def drawn_list(draw, letters, most):
    """A list of 1 to `most` rules that `draw`, a random.Random, makes."""
    k = draw.randint(1, most)
    r = []
    for j in range(k):
        for _ in range(2):
            near = max(0, j - 1 - int(draw.expovariate(0.7)))
            r.append(256 + near if j and draw.random() < 0.7 else draw.choice(letters))
    return k, r


class Maker:
    """A list in the making: each call gives the thing that makes what is asked for."""

    def __init__(self):
        self.r = []
        self.known = {}

    def both(self, first, second):
        """The thing that makes what first makes and then what second makes."""
        if (first, second) not in self.known:
            self.r += [first, second]
            self.known[first, second] = 255 + len(self.r) // 2
        return self.known[first, second]

    def row(self, things):
        """The thing that makes what these make one after the other, put on from the left."""
        made = things[0]
        for thing in things[1:]:
            made = self.both(made, thing)
        return made

    def row_from_right(self, things):
        """The same, put on from the right."""
        made = things[-1]
        for thing in reversed(things[:-1]):
            made = self.both(thing, made)
        return made

    def power(self, thing, times, smallest_first=False):
        """The thing that makes what this one makes, times (1 or more) times."""
        parts = []
        while times:
            if times % 2:
                parts.append(thing)
            times //= 2
            if times:
                thing = self.both(thing, thing)
        return self.row(parts if smallest_first else parts[::-1])

    def list_of(self, first, second):
        """k and r of the list whose text is what these two make."""
        # Put behind all others, known or not: the last rule is the one that counts.
        r = self.r + [first, second]
        return len(r) // 2, r


class ReadOnlyList(list):
    """A list that fails at once when something would change it, even for a while."""

    def refuse(self, *args, **kwargs):
        raise AssertionError("what was handed in was changed")

    __setitem__ = __delitem__ = __iadd__ = __imul__ = refuse
    append = extend = insert = pop = remove = clear = sort = reverse = refuse

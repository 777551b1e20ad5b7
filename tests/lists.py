"""Lists of rules that tests are made of, and texts written out where they are short."""

BOUND = 2 ** 60


def doubling(k):
    """k rules, of which rule j makes 2^(j + 1) letters."""
    r = [97, 97]
    for j in range(1, k):
        r += [255 + j, 255 + j]
    return r


def row_by_first(k):
    """k rules, each naming the one before it as its first thing: k + 1 letters."""
    r = [97, 98]
    for j in range(1, k):
        r += [255 + j, 99]
    return r


def row_by_second(k):
    """k rules, each naming the one before it as its second thing: k + 1 letters."""
    r = [97, 98]
    for j in range(1, k):
        r += [99, 255 + j]
    return r


def one_below_bound():
    """A list whose text has 2^60 - 1 letters: 2^59 + 2^58 + .. + 2 + 1."""
    r = doubling(59)
    last = 256 + 58
    for thing in list(range(256 + 57, 255, -1)) + [97]:
        r += [last, thing]
        last = 255 + len(r) // 2
    return r


def written_out(k, r):
    """The text, letter by letter; None where a rule names what it may not."""
    made = {thing: [thing] for thing in range(256)}
    for j in range(k):
        if r[2 * j] not in made or r[2 * j + 1] not in made:
            return None
        made[256 + j] = made[r[2 * j]] + made[r[2 * j + 1]]
    return made[255 + k]


class ReadOnlyList(list):
    """A list that fails at once when something would change it, even for a while."""

    def refuse(self, *args, **kwargs):
        raise AssertionError("what was handed in was changed")

    __setitem__ = __delitem__ = __iadd__ = __imul__ = refuse
    append = extend = insert = pop = remove = clear = sort = reverse = refuse

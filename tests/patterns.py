"""Where patterns stand, found in plainer ways than the program's, for the tests of count and find."""

from lists import beginning, things_reached, written_out


def all_places(text, pattern):
    """The places at which the pattern stands, tried place by place."""
    pattern = list(pattern)
    return [i for i in range(len(text)) if text[i:i + len(pattern)] == pattern]


def places_in(text, pattern):
    """At how many places the pattern stands, tried place by place."""
    return len(all_places(text, pattern))


def places_by_rules(k, r, pattern):
    """The same by the rules: each thing's places, beginning and end, and what stands where two meet."""
    most = len(pattern) - 1
    made = {}
    for thing in things_reached(k, r):
        if thing < 256:
            made[thing] = (places_in([thing], pattern), [thing][:most], [thing][:most])
            continue
        first, second = made[r[2 * (thing - 256)]], made[r[2 * (thing - 256) + 1]]
        # Neither side is as long as the pattern, so what stands in both together stands across.
        across = places_in(first[2] + second[1], pattern)
        # A beginning that is the end too and falls short of `most` is the thing's whole text.
        start = first[1] + second[1] if len(first[1]) < most and first[1] == first[2] else first[1]
        end = first[2] + second[2] if len(second[2]) < most and second[1] == second[2] else second[2]
        made[thing] = (first[0] + second[0] + across, start[:most], end[max(0, len(end) - most):])
    return made[255 + k][0]


def places_within(k, r, pattern, size):
    """At how many places the pattern stands in the text's first `size` letters."""
    # No list makes fewer letters than two.
    if size < 2:
        return places_in(written_out(*beginning(k, r, 2))[:size], pattern)
    return places_by_rules(*beginning(k, r, size), pattern)


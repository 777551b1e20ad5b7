"""Texts that are reckoned with by their rules, never written out."""

from ruletexts.blocks import BYTES, Names, letters_alike, text_layers

MOST_RULES = 256
# 2^60, the first length that a text may not have.
TOO_LONG = 1152921504606846976
LONGEST_PIECE = 4096
LONGEST_PATTERN = 64
SHORTEST_MADE = 2
LONGEST_MADE = 12
LONGEST_CUT = 2048

BAD_LIST = -1
LONG_TEXT = -2
OUT_OF_BOUNDS = -3


def check(k, r):
    """Answer [0] if the list is one, else its refusal."""
    return [list_refusal(k, r)]


def length(k, r):
    """Answer how many letters the text has, or the list's refusal."""
    refusal = list_refusal(k, r)
    if refusal < 0:
        return [refusal]
    return [text_length(k, r)]


def at(i, k, r):
    """Answer the letter i, or a refusal."""
    refusal = list_refusal(k, r)
    if refusal < 0:
        return [refusal]
    if i < 0 or i >= text_length(k, r):
        return [OUT_OF_BOUNDS]
    return letters_from(i, 1, k, r)


def piece(a, n, k, r):
    """Answer how many letters there are from a on, n at most, and these; or a refusal."""
    refusal = list_refusal(k, r)
    if refusal < 0:
        return [refusal]
    if a < 0 or a > text_length(k, r) or n < 0 or n > LONGEST_PIECE:
        return [OUT_OF_BOUNDS]
    letters = letters_from(a, n, k, r)
    return [len(letters)] + letters


def same(k, r, j, s):
    """Answer how many letters both texts begin with alike, or a refusal."""
    refusal = list_refusal(k, r)
    if refusal == 0:
        refusal = list_refusal(j, s)
    if refusal < 0:
        return [refusal]
    names = Names()
    return [letters_alike(text_layers(k, r, names), text_layers(j, s, names), names)]


def count(n, k, r, p):
    """Answer at how many places the pattern stands, or a refusal."""
    refusal = pattern_refusal(n, k, r)
    if refusal < 0:
        return [refusal]
    return [places_in_text(k, walks_of(p, k, r))]


def find(n, m, k, r, p):
    """Answer the place of the pattern that has m such places before it, or a refusal."""
    refusal = pattern_refusal(n, k, r)
    if refusal < 0:
        return [refusal]
    walks = walks_of(p, k, r)
    if m < 0 or m >= places_in_text(k, walks):
        return [OUT_OF_BOUNDS]
    return [end_of_place(m, k, r, walks) - n]


def fewest(n, t):
    """Answer how many rules a list with the fewest has, of all that make t; or a refusal."""
    if n < SHORTEST_MADE or n > LONGEST_MADE:
        return [OUT_OF_BOUNDS]
    return [rules_needed(tuple(t))]


def factors(n, t):
    """Answer how many pieces t is cut into, and how long each is; or a refusal."""
    if n < 0 or n > LONGEST_CUT:
        return [OUT_OF_BOUNDS]
    sizes = piece_sizes(t)
    return [len(sizes)] + sizes


def list_refusal(k, r):
    """Give 0, or the first refusal that is right of the list."""
    # All names are looked at before any length: lengths follow the names.
    if k < 1 or k > MOST_RULES or not names_allowed(k, r):
        return BAD_LIST
    if text_length(k, r) >= TOO_LONG:
        return LONG_TEXT
    return 0


def pattern_refusal(n, k, r):
    """Give 0, or the first refusal that is right of the list and the pattern's size."""
    refusal = list_refusal(k, r)
    if refusal == 0 and (n < 1 or n > LONGEST_PATTERN):
        return OUT_OF_BOUNDS
    return refusal


def names_allowed(k, r):
    """Say whether each rule names bytes and rules before it alone."""
    for j in range(k):
        if max(r[2 * j], r[2 * j + 1]) >= BYTES + j:
            return False
    return True


def text_length(k, r):
    """Give how many letters the last rule makes, however many."""
    return rule_lengths(k, r)[k - 1]


def rule_lengths(k, r):
    """Give for each rule how many letters it makes."""
    # Rules name only earlier ones, so one walk in order does without recursion.
    lengths = []
    for j in range(k):
        first = thing_length(r[2 * j], lengths)
        second = thing_length(r[2 * j + 1], lengths)
        lengths.append(first + second)
    return lengths


def thing_length(thing, lengths):
    """Give how many letters a thing makes, by the lengths of the rules before it."""
    if thing < BYTES:
        return 1
    return lengths[thing - BYTES]


def letters_from(a, n, k, r):
    """Give the text's letters from a on, n of them or as many as there are."""
    ahead = things_from(a, k, r)
    letters = []
    while ahead and len(letters) < n:
        thing = ahead.pop()
        if thing < BYTES:
            letters.append(thing)
        else:
            put_things(thing, r, ahead)
    return letters


def things_from(a, k, r):
    """Give things that make the text from a on, the first of them last in the list."""
    lengths = rule_lengths(k, r)
    ahead = [BYTES + k - 1]
    before = a
    while before > 0:
        thing = ahead.pop()
        size = thing_length(thing, lengths)
        # A thing that lies before a is left out whole: its letters are never gone through.
        if size <= before:
            before -= size
        else:
            put_things(thing, r, ahead)
    return ahead


def put_things(thing, r, ahead):
    """Put a rule's two things at the end of the list, its first thing last."""
    place = 2 * (thing - BYTES)
    ahead.append(r[place + 1])
    ahead.append(r[place])


def places_in_text(k, walks):
    """Give at how many places of the text the pattern stands."""
    found = walks[BYTES + k - 1][1]
    return found[0]


def end_of_place(m, k, r, walks):
    """Give how many letters there are up to the end of the place that has m before it."""
    lengths = rule_lengths(k, r)
    thing = BYTES + k - 1
    before = m
    stood = 0
    passed = 0
    while thing >= BYTES:
        first = r[2 * (thing - BYTES)]
        second = r[2 * (thing - BYTES) + 1]
        walk = walks[first]
        # A place is found where it ends: it may begin in things that were passed already.
        if before < walk[1][stood]:
            thing = first
        else:
            before -= walk[1][stood]
            stood = walk[0][stood]
            passed += thing_length(first, lengths)
            thing = second
    return passed + 1


def walks_of(p, k, r):
    """Give for each thing of the list its walk, as letter_walk and joined_walk tell."""
    borders = pattern_borders(p)
    walks = {}
    for thing in sorted(set(r)):
        if thing < BYTES:
            walks[thing] = letter_walk(thing, p, borders)
    for j in range(k):
        walks[BYTES + j] = joined_walk(walks[r[2 * j]], walks[r[2 * j + 1]])
    return walks


def letter_walk(letter, p, borders):
    """Give a letter's walk: by how much of the pattern stood before it, how much does, and the places found."""
    ends = [step(stood, letter, p, borders) for stood in range(len(p) + 1)]
    found = [1 if end == len(p) else 0 for end in ends]
    return (ends, found)


def joined_walk(first, second):
    """Give the walk through what the first walk goes through and then what the second does."""
    ends = [second[0][end] for end in first[0]]
    found = [places + second[1][end] for end, places in zip(first[0], first[1])]
    return (ends, found)


def step(stood, letter, p, borders):
    """Give how many of the pattern's first letters stand last, once the letter is put behind."""
    while stood > 0 and (stood == len(p) or p[stood] != letter):
        stood = borders[stood]
    return stood + 1 if p[stood] == letter else 0


def pattern_borders(p):
    """Give for each beginning of the pattern the longest shorter one that it ends with."""
    borders = [0, 0]
    for stood in range(1, len(p)):
        borders.append(step(borders[stood], p[stood], p, borders))
    return borders


def rules_needed(text):
    """Give how many rules a list needs at least that makes this text, a tuple of letters."""
    rules = 0
    # Each key is one choice: the texts that are still to be made, once so many rules are there.
    choices = {(text,): True}
    while () not in choices:
        choices = after_another_rule(choices)
        rules += 1
    return rules


def after_another_rule(choices):
    """Give what may be left to be made of each choice, once its longest text has a rule."""
    # A rule makes something longer than both of its things: if the longest text is always the
    # one that gets a rule, none of those that have one is asked for again.
    left = {}
    for texts in choices:
        longest = texts[-1]
        for place in range(1, len(longest)):
            left[texts_with(texts[:-1], longest[:place], longest[place:])] = True
    return left


def texts_with(texts, first, second):
    """Give the texts and these two, each once, the longest last; a single letter needs no rule."""
    wanted = list(texts)
    for each in (first, second):
        if len(each) > 1 and each not in wanted:
            wanted.append(each)
    # Texts of one length in one order alone: a choice is one key, whichever way led to it.
    return tuple(sorted(sorted(wanted), key=len))


def piece_sizes(t):
    """Give how long each piece is that t is cut into."""
    sizes = []
    start = 0
    while start < len(t):
        size = max(1, seen_size(start, t))
        sizes.append(size)
        start += size
    return sizes


def seen_size(start, t):
    """Give how many letters from start on, at most, stand whole in all that comes before start."""
    size = 0
    # The places before start from which on the same letters stand, as far as size tells.
    places = list(range(start))
    while start + size < len(t):
        letter = t[start + size]
        # What reaches up to start ends there: a piece doesn't reach into itself.
        places = [place for place in places if place + size < start and t[place + size] == letter]
        if not places:
            break
        size += 1
    return size

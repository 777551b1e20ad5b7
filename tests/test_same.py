"""Promise 3, and what stands ahead of it: same."""

import itertools
import random
import time
import unittest

from calls import EachCallByItself, answer_with_few_frames
from lists import (BOUND, Maker, cut_otherwise, doubled, doubling, drawn_list, drawn_long_list,
                   fibonacci, marked_list, one_below_bound, row_behind_doubling, row_by_first,
                   row_by_second, row_by_turns, small_lists, with_letter, written_out)
from refusals import BAD_LISTS, LONG_LISTS, WRONG_COUNTS
from ruletexts.texts import length, same

LONGEST = BOUND - 1


def beginning_alike(text, other):
    """How many letters both begin with alike, letter by letter."""
    alike = 0
    while alike < min(len(text), len(other)) and text[alike] == other[alike]:
        alike += 1
    return alike


def list_of_word(word, from_right=False):
    """k and r of a list that makes these letters, two or more."""
    maker = Maker()
    things = list(word)
    if from_right:
        return maker.list_of(things[0], maker.row_from_right(things[1:]))
    return maker.list_of(maker.row(things[:-1]), things[-1])


def abab_list(size, place=None, smallest_first=False):
    """abab.. of so many letters; at the place, if there's one, stands an x."""
    maker = Maker()
    ab = maker.both(97, 98)
    things = []

    def put_abab(start, end):
        if start < end and start % 2:
            things.append(98)
            start += 1
        if end - start > 1:
            things.append(maker.power(ab, (end - start) // 2, smallest_first))
        if start < end and end % 2:
            things.append(97)

    put_abab(0, size if place is None else place)
    if place is not None:
        things.append(120)
        put_abab(place + 1, size)
    return maker.list_of(maker.row(things[:-1]), things[-1])


def thue_morse(levels):
    """The things of the words of 2^levels letters, and the maker that has them."""
    maker = Maker()
    word, other = 97, 98
    for _ in range(levels):
        word, other = maker.both(word, other), maker.both(other, word)
    return maker, word, other


class Answers(unittest.TestCase):
    def assert_same(self, one, other, alike):
        self.assertEqual(same(*one, *other), [alike])
        self.assertEqual(same(*other, *one), [alike])

    def assert_written_out(self, one, other):
        self.assert_same(one, other, beginning_alike(written_out(*one), written_out(*other)))


class OrdinaryLists(Answers):
    def test_unlike_at_the_first_letter_in_the_middle_and_at_the_last(self):
        one = list_of_word(b"abracadabra")
        for word, alike in ((b"xbracadabra", 0), (b"axracadabra", 1), (b"abracxdabra", 5),
                            (b"abracadabrx", 10), (b"abracadabra", 11)):
            self.assert_same(one, list_of_word(word), alike)
            self.assert_same(one, list_of_word(word, from_right=True), alike)

    def test_one_is_a_beginning_of_the_other(self):
        word = b"abracadabra"
        for size in range(2, 12):
            self.assert_same(list_of_word(word), list_of_word(word[:size]), size)
            self.assert_same(list_of_word(word, from_right=True), list_of_word(word[:size]), size)

    def test_one_ends_with_the_other(self):
        self.assert_same(list_of_word(b"abcabcab"), list_of_word(b"cab"), 0)
        self.assert_same(list_of_word(b"aaaaaaab"), list_of_word(b"aab"), 2)

    def test_the_same_text_by_different_rules(self):
        lists = [(2, [97, 98, 256, 256]), (3, [97, 98, 256, 97, 257, 98]),
                 (3, [97, 98, 98, 256, 97, 257]), (3, [98, 97, 97, 256, 257, 98]),
                 (4, [1, 2, 97, 98, 3, 4, 257, 257])]
        for one in lists:
            for other in lists:
                self.assert_same(one, other, 4)

    def test_rules_alike_that_make_other_texts(self):
        self.assert_same((2, [97, 98, 256, 99]), (2, [97, 97, 256, 99]), 1)
        self.assert_same((2, [97, 98, 256, 99]), (2, [97, 98, 256, 100]), 2)

    def test_lists_of_few_rules(self):
        few = list(small_lists((97, 98, 256), 2))
        for one in few:
            for other in small_lists((97, 98, 256, 257), 3):
                self.assert_written_out(one, other)

    def test_drawn_lists(self):
        draw = random.Random(3)
        for letters in ((97,), (97, 98), (0, 1, 2, 255)):
            for _ in range(400):
                one = drawn_list(draw, letters, 11)
                self.assert_written_out(one, drawn_list(draw, letters, 11))
                self.assert_written_out(one, cut_otherwise(draw, *one, 30))
                size = len(written_out(*one))
                changed = with_letter(*one, draw.randrange(size), draw.choice(letters))
                self.assert_written_out(one, changed)
                self.assert_written_out(one, cut_otherwise(draw, *changed, 60))

    def test_words_unlike_at_each_place(self):
        draw = random.Random(4)
        for letters in (b"a", b"ab", bytes(range(97))):
            for size in (2, 3, 7, 64, 128):
                word = bytes(draw.choice(letters) for _ in range(size))
                one = list_of_word(word)
                for place in range(size):
                    self.assert_same(one, with_letter(*one, place, 99), place)

    def test_words_over_and_over_with_other_ends(self):
        for word, other in ((b"bcbabcbabc", b"bcbabcbabcbacab"),
                            (b"bacbacbacbacbacac", b"bacbacbacbacaab"),
                            (b"acabca" * 5 + b"abb", b"acabca" * 6 + b"ccb")):
            self.assert_written_out(list_of_word(word), list_of_word(other))
        draw = random.Random(13)
        for _ in range(3000):
            word = bytes(draw.choice(b"bac") for _ in range(draw.randint(2, 6)))
            end, other_end = [bytes(draw.choice(b"bac") for _ in range(draw.randint(0, 3))) for _ in "12"]
            self.assert_written_out(list_of_word(word * draw.randint(1, 9) + end),
                                    list_of_word(word * draw.randint(1, 9) + other_end))

    def test_letters_that_climb_and_that_fall(self):
        up, down = bytes(range(256)), bytes(reversed(range(256)))
        for word in (up, down, up[:128] + down[:128], up[::2] + down[::2]):
            one = list_of_word(word)
            self.assert_same(one, list_of_word(word, from_right=True), len(word))
            for place in (1, 2, 100, 127, 128, 129, 200, len(word) - 1):
                self.assert_written_out(one, list_of_word(word[:place] + b"\0" + word[place:255]))
                self.assert_written_out(one, list_of_word(word[:place] + word[place + 1:]))

    def test_rules_that_the_last_does_not_reach(self):
        for k in (1, 60, 64, 254):
            one = (k + 2, doubling(k) + [98, 99, 256 + k, 100])
            self.assert_same(one, (2, [98, 99, 256, 100]), 3)
            self.assert_same(one, one, 3)


class LongTexts(Answers):
    def test_one_letter_only(self):
        one = (118, one_below_bound())
        self.assert_same(one, one, LONGEST)
        for e in range(1, 60):
            self.assert_same(one, (e, doubling(e)), 2 ** e)
        maker = Maker()
        smallest_first = maker.power(97, LONGEST, smallest_first=True)
        other = maker.list_to(smallest_first)
        self.assert_same(one, other, LONGEST)
        maker = Maker()
        self.assert_same(one, maker.list_of(maker.power(97, LONGEST - 1), 98), LONGEST - 1)
        self.assert_same(one, maker.list_of(98, maker.power(97, LONGEST - 1)), 0)
        self.assert_same(one, maker.list_of(97, maker.power(97, LONGEST - 1)), LONGEST)

    def test_powers_of_words_cut_in_different_ways(self):
        for word in (b"ab", b"abc", b"abcde", b"aab", b"abaab"):
            times = LONGEST // len(word)
            left, right = Maker(), Maker()
            one = left.list_of(left.power(left.row(list(word)), times - 1), left.row(list(word)))
            # The same word from its second letter on, with the first letter put before all.
            turned = right.row_from_right(list(word[1:] + word[:1]))
            rest = right.power(turned, times - 1, smallest_first=True)
            start = right.both(word[0], rest)
            other = right.list_of(start, right.row(list(word[1:])))
            self.assertEqual(length(*one), [times * len(word)])
            self.assert_same(one, other, times * len(word))
            self.assert_same(one, right.list_of(start, right.row(list(word[1:-1] + b"z"))),
                             times * len(word) - 1)

    def test_unlike_at_one_place_only(self):
        one, other = abab_list(LONGEST), abab_list(LONGEST, smallest_first=True)
        self.assertEqual((length(*one), length(*other)), ([LONGEST], [LONGEST]))
        self.assert_same(one, other, LONGEST)
        places = [0, 1, 2, 3, 2 ** 30 - 1, 2 ** 30, BOUND // 3, BOUND // 2 - 1, BOUND // 2,
                  BOUND // 2 + 1, LONGEST - 4, LONGEST - 3, LONGEST - 2, LONGEST - 1]
        for place in places:
            for smallest_first in (False, True):
                unlike = abab_list(LONGEST, place, smallest_first)
                self.assertEqual(length(*unlike), [LONGEST])
                self.assert_same(one, unlike, place)
                self.assert_same(unlike, other, place)
                self.assert_same(unlike, unlike, LONGEST)

    def test_two_that_are_unlike_a_third_at_other_places(self):
        for place, later in ((0, 1), (5, 2 ** 40), (2 ** 59, 2 ** 59 + 1), (1, LONGEST - 1)):
            self.assert_same(abab_list(LONGEST, place), abab_list(LONGEST, later), place)

    def test_marks_at_the_beginning_in_the_middle_and_at_the_end(self):
        one = marked_list()
        self.assert_same(one, one, LONGEST)
        for place in (0, 2 ** 59 - 1, LONGEST - 1):
            self.assert_same(one, with_letter(*one, place, 7), place)

    def test_fibonacci_words(self):
        for k in (3, 4, 5, 20, 21, 84, 85):
            # Of two such words put together in both ways only the last two letters are unlike.
            r = fibonacci(k)
            size = length(k, r)[0]
            turned = r[:-2] + [r[-1], r[-2]]
            self.assert_same((k, r), (k, r), size)
            self.assert_same((k, r), (k, turned), size - 2)
            self.assert_same((k, r), (k - 1, r[:-2]), length(k - 1, r[:-2])[0])

    def test_thue_morse_words(self):
        for levels in (1, 2, 3, 10, 57, 58):
            maker, word, other = thue_morse(levels)
            self.assert_same(maker.list_of(word, word), maker.list_of(word, other), 2 ** levels)
            self.assert_same(maker.list_of(word, other), maker.list_of(other, word), 0)
        maker, word, other = thue_morse(58)
        middle = maker.both(maker.things_of(word)[1], maker.things_of(other)[0])
        start, end = maker.things_of(word)[0], maker.things_of(other)[1]
        self.assert_same(maker.list_of(word, other),
                         maker.list_of(maker.both(start, middle), end), 2 ** 59)

    def test_drawn_lists_cut_in_different_ways(self):
        draw = random.Random(5)
        for letters in ((97, 98), (97, 98, 99), tuple(range(256))):
            for k in (60, 90, 125):
                one = drawn_long_list(draw, letters, k, BOUND)
                size = length(*one)[0]
                other = cut_otherwise(draw, *one, 250)
                self.assertNotEqual(one, other)
                self.assert_same(one, other, size)
                short = drawn_long_list(draw, letters, 60, BOUND)
                self.assert_same(short, short, length(*short)[0])

    def test_drawn_lists_unlike_at_one_place(self):
        draw = random.Random(6)
        for letters in ((97, 98), (97, 98, 99), tuple(range(97, 256))):
            for k in (60, 90, 120):
                one = drawn_long_list(draw, letters, k, BOUND)
                size = length(*one)[0]
                for place in [0, 1, size - 2, size - 1] + [draw.randrange(size) for _ in range(4)]:
                    changed = with_letter(*one, place, 7)
                    self.assert_same(one, changed, place)
                    self.assert_same(cut_otherwise(draw, *one, 250), changed, place)

    def test_other_rules_than_the_last_may_be_longer(self):
        for k in (60, 64, 255):
            one = (k + 1, doubling(k) + [98, 256 + 57])
            self.assert_same(one, one, 2 ** 58 + 1)
            self.assert_same(one, (59, doubling(58) + [98, 256 + 56]), 2 ** 57 + 1)


class RowsOfRules(Answers):
    def assert_same_in_few_frames(self, one, other, alike):
        self.assertEqual(answer_with_few_frames(same, (*one, *other)), [alike])

    def test_by_the_first_thing_and_by_the_second(self):
        rows = [(256, row(256)) for row in (row_by_first, row_by_second, row_by_turns)]
        for one in rows:
            text = bytes(written_out(*one))
            for other in rows:
                self.assert_same_in_few_frames(one, other, beginning_alike(text, written_out(*other)))
            for other in (list_of_word(text), list_of_word(text, from_right=True)):
                self.assertEqual(other[0], 256)
                self.assert_same_in_few_frames(one, other, 257)

    def test_a_row_unlike_at_each_place(self):
        draw = random.Random(7)
        word = bytes(draw.choice(b"ab") for _ in range(257))
        one = list_of_word(word)
        for place in range(257):
            other = word[:place] + b"c" + word[place + 1:]
            self.assert_same_in_few_frames(one, list_of_word(other, from_right=True), place)

    def test_by_both_things(self):
        for row in (row_by_first, row_by_second, row_by_turns):
            one = (256, doubled(row(205), 256))
            size = 206 * 2 ** 51
            self.assertEqual(length(*one), [size])
            self.assert_same_in_few_frames(one, one, size)
            half = (255, one[1][:-2])
            self.assert_same_in_few_frames(one, half, size // 2)
            word = bytes(written_out(205, one[1][:410]))
            maker = Maker()
            turned = maker.row_from_right(list(word))
            other = maker.list_to(maker.power(turned, 2 ** 50))
            self.assert_same_in_few_frames(one, other, size // 2)

    def test_rows_behind_doubling(self):
        for start in (40, 57, 58):
            one = (256, row_behind_doubling(256, start))
            size = length(*one)[0]
            self.assert_same_in_few_frames(one, one, size)
            unlike = list(one[1])
            for j in range(255, start, -1):
                if j % 2:
                    unlike[2 * j + 1] = 7
                    break
            self.assert_same_in_few_frames(one, (256, unlike), size - 1)

    def test_one_rule_and_as_many_as_may_be(self):
        self.assert_same((1, [97, 98]), (1, [97, 98]), 2)
        self.assert_same((1, [97, 98]), (1, [97, 99]), 1)
        self.assert_same((1, [97, 98]), (1, [98, 97]), 0)
        self.assert_same((1, [99, 97]), (256, row_by_second(256)), 1)
        self.assert_same((1, [97, 98]), (256, row_by_first(256)), 2)
        self.assert_same((256, row_by_first(256)), (256, row_by_first(256)), 257)

    def test_the_answers_come_in_a_moment(self):
        draw = random.Random(8)
        pairs = [((84, fibonacci(84)), (84, fibonacci(84)))]
        for start in (fibonacci(80), thue_morse(55)[0].r):
            for by_first in (True, False):
                r = list(start)
                for j in range(len(r) // 2, 256):
                    things = [255 + j, draw.randrange(256)]
                    r += things if by_first else reversed(things)
                pairs.append(((256, r), (256, r[:-1] + [97])))
        for _ in range(5):
            pairs.append((drawn_long_list(draw, (97, 98), 256, BOUND),
                          drawn_long_list(draw, (97, 98), 256, BOUND)))
        for one, other in pairs:
            start = time.process_time()
            same(*one, *other)
            # A hundred times what it takes; letter by letter it would never end.
            self.assertLess(time.process_time() - start, 10)


class RefusedLists(unittest.TestCase):
    bad = [(k, []) for k in WRONG_COUNTS] + BAD_LISTS
    good = [(1, [97, 98]), (118, one_below_bound()), (256, row_by_first(256))]

    def assert_refused(self, ones, others, refusal):
        for one in ones:
            for other in others:
                self.assertEqual(same(*one, *other), [refusal], (one[0], other[0]))

    def test_one_list_is_refused(self):
        self.assert_refused(self.bad, self.good, -1)
        self.assert_refused(self.good, self.bad, -1)
        self.assert_refused(LONG_LISTS, self.good, -2)
        self.assert_refused(self.good, LONG_LISTS, -2)

    def test_both_are_refused_alike(self):
        self.assert_refused(self.bad, self.bad, -1)
        self.assert_refused(LONG_LISTS, LONG_LISTS, -2)

    def test_the_first_list_is_told_first(self):
        self.assert_refused(self.bad, LONG_LISTS, -1)
        self.assert_refused(LONG_LISTS, self.bad, -2)


class SameByItself(EachCallByItself, unittest.TestCase):
    lists = [(1, [97, 98]), (3, [97, 98, 256, 256, 257, 97]), (256, row_by_first(256)),
             (84, fibonacci(84)), marked_list(), (0, []), (257, []), BAD_LISTS[0], LONG_LISTS[0]]
    samples = [(same, (*one, *other)) for one, other in itertools.product(lists, repeat=2)]

    def test_one_number_alone(self):
        for call, args in self.samples:
            self.assertEqual(len(call(*args)), 1)

    def test_the_very_same_list_twice(self):
        r = fibonacci(20)
        self.assertEqual(same(20, r, 20, r), length(20, r))

    def test_a_list_that_is_changed_between_calls_is_looked_at_anew(self):
        r, s = [97, 98, 256, 256], [97, 98, 256, 97]
        self.assertEqual(same(2, r, 2, s), [3])
        s[3] = 98
        self.assertEqual(same(2, r, 2, s), [2])
        r[3] = 98
        self.assertEqual(same(2, r, 2, s), [3])
        s[3] = 257
        self.assertEqual(same(2, r, 2, s), [-1])


if __name__ == "__main__":
    unittest.main()

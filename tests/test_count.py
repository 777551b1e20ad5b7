"""Promise 4, what it says of count, and what stands ahead of it."""

import itertools
import random
import time
import unittest

from calls import EachCallByItself, answer_with_few_frames
from lists import (BOUND, Maker, cut_otherwise, doubled, doubling, drawn_list, drawn_long_list,
                   fibonacci, marked_list, one_below_bound, row_behind_doubling, row_by_first,
                   row_by_second, row_by_turns, small_lists, written_out)
from patterns import places_by_rules, places_in
from refusals import BAD_LISTS, LONG_LISTS, WRONG_COUNTS, WRONG_SIZES
from ruletexts.texts import count, length, piece

LONGEST = BOUND - 1


class Answers(unittest.TestCase):
    def assert_count(self, k, r, pattern, places):
        self.assertEqual(count(len(pattern), k, r, list(pattern)), [places])

    def assert_written_out(self, k, r, patterns):
        text = written_out(k, r)
        for pattern in patterns:
            self.assert_count(k, r, pattern, places_in(text, pattern))


class OrdinaryLists(Answers):
    # abracadabraabracadabra
    abra = [97, 98, 114, 97, 256, 257, 99, 97, 100, 258, 259, 258, 260, 97,
            262, 98, 263, 257]

    def test_nowhere_once_often_and_over_one_another(self):
        word = b"abracadabra"
        maker = Maker()
        k, r = maker.list_of(maker.row(list(word[:-1])), word[-1])
        for pattern, places in ((b"x", 0), (b"ba", 0), (b"abrac", 1), (b"cad", 1), (b"a", 5),
                                (b"abra", 2), (b"bra", 2), (b"abracadabra", 1), (b"abracadabrab", 0)):
            self.assert_count(k, r, pattern, places)
        maker = Maker()
        k, r = maker.list_of(maker.row(list(b"ababab")), 97)
        for pattern, places in ((b"aba", 3), (b"ababa", 2), (b"abababa", 1), (b"bab", 2), (b"aa", 0)):
            self.assert_count(k, r, pattern, places)

    def test_lists_of_few_rules(self):
        patterns = [bytes(p) for n in (1, 2, 3, 4, 5) for p in itertools.product(b"ab", repeat=n)]
        for k, r in small_lists((97, 98, 256, 257), 3):
            self.assert_written_out(k, r, patterns)

    def test_drawn_lists(self):
        draw = random.Random(9)
        for letters in (b"a", b"ab", b"abc"):
            for _ in range(150):
                k, r = drawn_list(draw, letters, 10)
                text = written_out(k, r)
                patterns = []
                for n in (1, 2, 3, 7, 20, 63, 64):
                    patterns.append(bytes(draw.choice(letters) for _ in range(n)))
                    start = draw.randrange(len(text))
                    patterns.append(text[start:start + n])
                self.assert_written_out(k, r, patterns)

    def test_every_piece_of_a_text(self):
        for k, r in ((9, self.abra), (8, fibonacci(8)), (5, doubling(5))):
            text = written_out(k, r)
            pieces = {tuple(text[a:b]) for b in range(1, len(text) + 1)
                      for a in range(max(0, b - 64), b)}
            self.assert_written_out(k, r, pieces)

    def test_every_byte(self):
        r = [0, 255]
        for byte in range(256):
            self.assert_count(1, r, [byte], 1 if byte in (0, 255) else 0)
            self.assert_count(1, [byte, byte], [byte], 2)
            self.assert_count(1, [byte, byte], [byte, byte], 1)

    def test_rules_that_the_last_does_not_reach(self):
        for k in (1, 60, 64, 254):
            r = doubling(k) + [98, 97, 256 + k, 98]
            for pattern, places in ((b"a", 1), (b"b", 2), (b"ba", 1), (b"ab", 1), (b"aa", 0)):
                self.assert_count(k + 2, r, pattern, places)


class Edges(Answers):
    def test_sizes_of_patterns(self):
        k, r = 8, doubling(8)
        for n in range(1, 65):
            self.assert_count(k, r, [97] * n, 257 - n)
            self.assert_count(k, r, [97] * (n - 1) + [98], 0)
            self.assert_count(k, r, [98] + [97] * (n - 1), 0)

    def test_as_long_as_the_text_and_longer(self):
        for size in range(2, 64):
            maker = Maker()
            word = [97 + i % 7 for i in range(size)]
            k, r = maker.list_of(maker.row(word[:-1]), word[-1])
            self.assert_count(k, r, word, 1)
            self.assert_count(k, r, word[:-1] + [120], 0)
            self.assert_count(k, r, word + [97], 0)
            self.assert_count(k, r, word + [97] * (64 - size), 0)
            self.assert_count(k, r, [97] * (64 - size) + word, 0)
        self.assert_count(6, doubling(6), [97] * 64, 1)
        self.assert_count(5, doubling(5), [97] * 64, 0)
        self.assert_count(1, [97, 97], [97] * 3, 0)

    def test_at_the_beginning_and_at_the_end(self):
        maker = Maker()
        k, r = maker.list_of(maker.row(list(b"xy") + [maker.power(97, 2 ** 40)]), 122)
        for pattern, places in ((b"x", 1), (b"xy", 1), (b"xya", 1), (b"xy" + b"a" * 62, 1),
                                (b"z", 1), (b"az", 1), (b"a" * 63 + b"z", 1), (b"zx", 0)):
            self.assert_count(k, r, pattern, places)

    def test_where_two_things_meet(self):
        draw = random.Random(10)
        word = [draw.choice(b"ab") for _ in range(200)]
        for meeting in range(1, 200, 7):
            maker = Maker()
            k, r = maker.list_of(maker.row(word[:meeting]), maker.row_from_right(word[meeting:]))
            for n in (2, 5, 33, 64):
                for start in range(max(0, meeting - n), min(meeting, 200 - n) + 1):
                    pattern = word[start:start + n]
                    self.assert_count(k, r, pattern, places_in(word, pattern))

    def test_across_many_things_of_one_letter(self):
        word = [i * i % 11 for i in range(257)]
        for row in (Maker.row, Maker.row_from_right):
            maker = Maker()
            k, r = maker.list_to(row(maker, word))
            for n in (1, 2, 3, 11, 64):
                for start in range(0, 258 - n, 5):
                    pattern = word[start:start + n]
                    self.assert_count(k, r, pattern, places_in(word, pattern))

    def test_patterns_that_begin_again_within_themselves(self):
        for word in (b"aab", b"aabaa", b"abaab", b"aaaab", b"abacaba"):
            maker = Maker()
            k, r = maker.list_of(maker.power(maker.row(list(word)), 20), maker.row(list(word[:2])))
            for n in range(1, 65):
                for turn in range(len(word)):
                    pattern = (word * 64)[turn:turn + n]
                    self.assert_written_out(k, r, [pattern, pattern[:-1] + b"a", pattern[:-1] + b"b"])


class LongTexts(Answers):
    def test_one_letter_only(self):
        r = one_below_bound()
        for n in (1, 2, 3, 63, 64):
            self.assert_count(118, r, [97] * n, LONGEST - n + 1)
            self.assert_count(118, r, [97] * (n - 1) + [98], 0)

    def test_marks_at_the_beginning_in_the_middle_and_at_the_end(self):
        k, r = marked_list()
        times = 2 ** 58 - 1
        for pattern, places in ((b"x", 1), (b"y", 1), (b"z", 1), (b"a", times), (b"ab", times),
                                (b"ba", times - 1), (b"abab", times - 1), (b"ab" * 32, times - 31),
                                (b"ba" * 32, times - 32), (b"byc", 1), (b"ayc", 0), (b"xab", 1),
                                (b"cdz", 1), (b"cz", 0), (b"dc" * 32, times - 32),
                                (b"ab" * 16 + b"y" + b"cd" * 15 + b"c", 1), (b"zx", 0)):
            self.assert_count(k, r, pattern, places)

    def test_fibonacci_words(self):
        k, r = 84, fibonacci(84)
        for start in range(0, 120, 7):
            for n in (1, 2, 3, 5, 8, 21, 55, 64):
                pattern = piece(start, n, k, r)[1:]
                self.assert_count(k, r, pattern, places_by_rules(k, r, pattern))
        # Each letter of these words: as many of them as rules before have letters.
        self.assert_count(k, r, b"b", length(k - 2, r[:-4])[0])
        self.assert_count(k, r, b"a", length(k - 1, r[:-2])[0])
        self.assert_count(k, r, b"bb", 0)
        self.assert_count(k, r, b"aaa", 0)

    def test_drawn_lists(self):
        draw = random.Random(11)
        for letters in (b"a", b"ab", b"abc"):
            for size in (60, 120, 256):
                k, r = drawn_long_list(draw, letters, size, BOUND)
                other = cut_otherwise(draw, k, r, 256)
                for n in (1, 2, 3, 10, 64):
                    pattern = piece(draw.randrange(length(k, r)[0] - n), n, k, r)[1:]
                    places = places_by_rules(k, r, pattern)
                    self.assertGreater(places, 0)
                    self.assert_count(k, r, pattern, places)
                    self.assert_count(*other, pattern, places)

    def test_other_rules_than_the_last_may_be_longer(self):
        for k in (60, 64, 255):
            r = doubling(k) + [98, 256 + 57]
            self.assert_count(k + 1, r, b"a", 2 ** 58)
            self.assert_count(k + 1, r, b"ba", 1)


class RowsOfRules(Answers):
    def assert_in_few_frames(self, k, r, pattern, places):
        answer = answer_with_few_frames(count, (len(pattern), k, r, list(pattern)))
        self.assertEqual(answer, [places])

    def test_by_the_first_thing_and_by_the_second(self):
        for row in (row_by_first, row_by_second, row_by_turns):
            r = row(256)
            text = written_out(256, r)
            for n in (1, 2, 64):
                for start in (0, 1, 100, 191, 193, 255):
                    pattern = text[start:start + n]
                    self.assert_in_few_frames(256, r, pattern, places_in(text, pattern))
        self.assert_in_few_frames(256, row_by_first(256), b"abc", 1)
        self.assert_in_few_frames(256, row_by_first(256), b"c" * 64, 192)
        self.assert_in_few_frames(256, row_by_second(256), b"cab", 1)

    def test_by_both_things(self):
        for row in (row_by_first, row_by_second, row_by_turns):
            text = written_out(205, row(205))
            r = doubled(row(205), 256)
            times = 2 ** 51
            for n in (1, 2, 64):
                for start in (0, 1, 100, 141, 142, 143, 180, 204, 205):
                    pattern = (text + text)[start:start + n]
                    within = places_in(text, pattern)
                    across = places_in(text + text, pattern) - 2 * within
                    self.assert_in_few_frames(256, r, pattern, within * times + across * (times - 1))

    def test_rows_behind_doubling(self):
        for start in (13, 58):
            r = row_behind_doubling(256, start)
            for pattern in (b"ab", b"ba" * 32, b"ab" * 32, [start, 97], [97, 98, start + 1]):
                pattern = list(pattern)
                self.assert_in_few_frames(256, r, pattern, places_by_rules(256, r, pattern))

    def test_one_rule_and_as_many_as_may_be(self):
        self.assert_count(1, [97, 98], b"ab", 1)
        self.assert_count(1, [97, 98], b"b", 1)
        self.assert_count(1, [97, 98], b"ba", 0)
        self.assert_count(256, [97, 98] * 256, b"ab", 1)

    def test_the_answers_come_in_a_moment(self):
        draw = random.Random(12)
        for _ in range(5):
            k, r = drawn_long_list(draw, tuple(range(256)), 256, BOUND)
            pattern = piece(0, 64, k, r)[1:]
            start = time.process_time()
            count(64, k, r, pattern)
            # A hundred times what it takes; letter by letter it would never end.
            self.assertLess(time.process_time() - start, 10)


class Refusals(unittest.TestCase):
    def test_wrong_sizes_of_patterns(self):
        for n in WRONG_SIZES:
            for k, r in ((1, [97, 98]), (118, one_below_bound()), (256, row_by_first(256))):
                self.assertEqual(count(n, k, r, []), [-3])

    def test_lists_that_are_refused(self):
        bad = [((k, []), -1) for k in WRONG_COUNTS]
        bad += [(each, -1) for each in BAD_LISTS] + [(each, -2) for each in LONG_LISTS]
        for (k, r), refusal in bad:
            for p in ([97], [97, 98], [97] * 64):
                self.assertEqual(count(len(p), k, r, p), [refusal])
            for n in WRONG_SIZES:
                self.assertEqual(count(n, k, r, []), [refusal])

    def test_a_pattern_that_stands_nowhere_is_no_refusal(self):
        self.assertEqual(count(1, 1, [97, 98], [99]), [0])
        self.assertEqual(count(64, 1, [97, 98], [97] * 64), [0])


class CountByItself(EachCallByItself, unittest.TestCase):
    lists = [(1, [97, 98]), (3, [97, 98, 256, 256, 257, 97]), (256, row_by_first(256)),
             (84, fibonacci(84)), marked_list(), (0, []), (257, []), BAD_LISTS[0], LONG_LISTS[0]]
    patterns = [(1, [97]), (2, [97, 98]), (3, [99] * 3), (64, [97, 98] * 32), (0, []), (65, [])]
    samples = [(count, (n, k, r, p)) for (k, r), (n, p) in itertools.product(lists, patterns)]

    def test_one_number_alone(self):
        for call, args in self.samples:
            self.assertEqual(len(call(*args)), 1)

    def test_lists_that_are_changed_between_calls_are_looked_at_anew(self):
        r, p = [97, 98, 256, 256], [97, 98]
        self.assertEqual(count(2, 2, r, p), [2])
        p[1] = 97
        self.assertEqual(count(2, 2, r, p), [0])
        r[1] = 97
        self.assertEqual(count(2, 2, r, p), [3])
        r[3] = 257
        self.assertEqual(count(2, 2, r, p), [-1])


if __name__ == "__main__":
    unittest.main()

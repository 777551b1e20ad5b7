"""Promise 4, what it says of find, and what stands ahead of it."""

import itertools
import random
import time
import unittest

from calls import EachCallByItself, answer_with_few_frames
from lists import (BOUND, Maker, cut_otherwise, doubled, doubling, drawn_list, drawn_long_list,
                   fibonacci, marked_list, one_below_bound, row_behind_doubling, row_by_first,
                   row_by_second, row_by_turns, small_lists, written_out)
from patterns import all_places, places_by_rules, places_within
from refusals import (BAD_LISTS, LONG_LISTS, LONG_MAX, LONG_MIN, WRONG_COUNTS,
                      WRONG_SIZES)
from ruletexts.texts import find, length, piece

LONGEST = BOUND - 1


class Answers(unittest.TestCase):
    def assert_find(self, k, r, pattern, m, place):
        self.assertEqual(find(len(pattern), m, k, r, list(pattern)), [place])

    def assert_none_beyond(self, k, r, pattern, places):
        for m in (LONG_MIN, LONG_MIN + 1, -BOUND, -places - 1, -2, -1, places, places + 1,
                  places + BOUND, LONG_MAX - 1, LONG_MAX):
            self.assert_find(k, r, pattern, m, -3)

    def assert_places(self, k, r, pattern, places):
        """All places, in order, and none before and behind these."""
        for m, place in enumerate(places):
            self.assert_find(k, r, pattern, m, place)
        for m in (-1, len(places), len(places) + 1):
            self.assert_find(k, r, pattern, m, -3)

    def assert_written_out(self, k, r, patterns):
        text = written_out(k, r)
        for pattern in patterns:
            self.assert_places(k, r, pattern, all_places(text, pattern))

    def assert_rightly_found(self, k, r, pattern, m):
        """By the rules: the pattern stands there, and the text ahead of its end has m places and this."""
        place = find(len(pattern), m, k, r, list(pattern))[0]
        self.assertGreaterEqual(place, 0)
        self.assertEqual(piece(place, len(pattern), k, r)[1:], list(pattern))
        end = place + len(pattern)
        self.assertEqual(places_within(k, r, pattern, end - 1), m)
        self.assertEqual(places_within(k, r, pattern, end), m + 1)
        return place


class OrdinaryLists(Answers):
    def test_nowhere_once_often_and_over_one_another(self):
        maker = Maker()
        k, r = maker.list_to(maker.row(list(b"abracadabra")))
        for pattern, places in ((b"x", []), (b"ba", []), (b"abrac", [0]), (b"cad", [4]),
                                (b"a", [0, 3, 5, 7, 10]), (b"abra", [0, 7]), (b"bra", [1, 8]),
                                (b"abracadabra", [0]), (b"abracadabrab", [])):
            self.assert_places(k, r, pattern, places)
        maker = Maker()
        k, r = maker.list_to(maker.row(list(b"abababa")))
        for pattern, places in ((b"aba", [0, 2, 4]), (b"ababa", [0, 2]), (b"abababa", [0]),
                                (b"bab", [1, 3]), (b"aa", [])):
            self.assert_places(k, r, pattern, places)

    def test_lists_of_few_rules(self):
        patterns = [bytes(p) for n in (1, 2, 3, 4) for p in itertools.product(b"ab", repeat=n)]
        for k, r in small_lists((97, 98, 256, 257), 3):
            self.assert_written_out(k, r, patterns)

    def test_drawn_lists(self):
        draw = random.Random(20)
        for letters in (b"a", b"ab", b"abc"):
            for _ in range(40):
                k, r = drawn_list(draw, letters, 7)
                text = written_out(k, r)
                patterns = []
                for n in (1, 2, 3, 7, 20, 63, 64):
                    patterns.append(bytes(draw.choice(letters) for _ in range(n)))
                    start = draw.randrange(len(text))
                    patterns.append(text[start:start + n])
                self.assert_written_out(k, r, patterns)

    def test_every_piece_of_a_text(self):
        for k, r in ((6, fibonacci(6)), (4, doubling(4)), (7, [97, 98, 98, 97, 256, 257, 257, 256,
                                                               258, 259, 260, 99, 261, 260])):
            text = written_out(k, r)
            pieces = {tuple(text[a:b]) for b in range(1, len(text) + 1)
                      for a in range(max(0, b - 64), b)}
            self.assert_written_out(k, r, sorted(pieces))

    def test_every_byte(self):
        for byte in range(256):
            self.assert_places(1, [byte, byte], [byte], [0, 1])
            self.assert_places(1, [byte, byte], [byte, byte], [0])
            self.assert_places(1, [byte, 255 - byte], [255 - byte], [1])

    def test_rules_that_the_last_does_not_reach(self):
        for k in (1, 60, 64, 254):
            r = doubling(k) + [98, 97, 256 + k, 98]
            for pattern, places in ((b"a", [1]), (b"b", [0, 2]), (b"ba", [0]), (b"ab", [1]), (b"aa", [])):
                self.assert_places(k + 2, r, pattern, places)


class Edges(Answers):
    def test_numbers_beyond_all_places(self):
        for k, r in ((1, [97, 97]), (3, [97, 98, 256, 256, 257, 97]), (6, doubling(6))):
            text = written_out(k, r)
            for pattern in (b"a", b"aa", b"ab", b"aba", b"x", b"a" * 64):
                self.assert_none_beyond(k, r, pattern, len(all_places(text, pattern)))

    def test_sizes_of_patterns(self):
        k, r = 7, doubling(7)
        for n in range(1, 65):
            for m in (0, 1, 64 - n, 127 - n, 128 - n):
                self.assert_find(k, r, [97] * n, m, m)
            self.assert_none_beyond(k, r, [97] * n, 129 - n)
            self.assert_find(k, r, [97] * (n - 1) + [98], 0, -3)
            self.assert_find(k, r, [98] + [97] * (n - 1), 0, -3)

    def test_as_long_as_the_text_and_longer(self):
        for size in range(2, 65):
            maker = Maker()
            word = [97 + i % 7 for i in range(size)]
            k, r = maker.list_of(maker.row(word[:-1]), word[-1])
            self.assert_places(k, r, word, [0])
            self.assert_places(k, r, word[:-1] + [120], [])
            if size < 64:
                self.assert_places(k, r, word + [97], [])
                self.assert_places(k, r, word + [97] * (64 - size), [])
                self.assert_places(k, r, [97] * (64 - size) + word, [])
        self.assert_places(6, doubling(6), [97] * 64, [0])
        self.assert_places(5, doubling(5), [97] * 64, [])
        self.assert_places(1, [97, 97], [97] * 3, [])

    def test_at_the_beginning_and_at_the_end(self):
        maker = Maker()
        k, r = maker.list_of(maker.row(list(b"xy") + [maker.power(97, 2 ** 40)]), 122)
        last = 2 ** 40 + 2
        for pattern, places in ((b"x", [0]), (b"xy", [0]), (b"y", [1]), (b"xya", [0]),
                                (b"xy" + b"a" * 62, [0]), (b"z", [last]), (b"az", [last - 1]),
                                (b"a" * 63 + b"z", [last - 63]), (b"zx", [])):
            self.assert_places(k, r, pattern, places)

    def test_where_two_things_meet(self):
        draw = random.Random(21)
        word = [draw.choice(b"ab") for _ in range(200)]
        for meeting in range(1, 200, 11):
            maker = Maker()
            k, r = maker.list_of(maker.row(word[:meeting]), maker.row_from_right(word[meeting:]))
            for n in (2, 5, 33, 64):
                for start in range(max(0, meeting - n), min(meeting, 200 - n) + 1, 3):
                    pattern = word[start:start + n]
                    m = all_places(word, pattern).index(start)
                    self.assert_find(k, r, pattern, m, start)

    def test_across_many_things_of_one_letter(self):
        word = [i * i % 11 for i in range(257)]
        for row in (Maker.row, Maker.row_from_right):
            maker = Maker()
            k, r = maker.list_to(row(maker, word))
            for n in (3, 11, 64):
                for start in range(0, 11, 3):
                    pattern = word[start:start + n]
                    self.assert_places(k, r, pattern, all_places(word, pattern))

    def test_patterns_that_begin_again_within_themselves(self):
        for word in (b"aab", b"abaab", b"abacaba"):
            maker = Maker()
            k, r = maker.list_of(maker.power(maker.row(list(word)), 12), maker.row(list(word[:2])))
            for n in (1, 2, 3, 4, 5, 8, 13, 31, 64):
                for turn in range(len(word)):
                    pattern = (word * 64)[turn:turn + n]
                    self.assert_written_out(k, r, [pattern, pattern[:-1] + b"a"])


class LongTexts(Answers):
    def test_one_letter_only(self):
        r = one_below_bound()
        for n in (1, 2, 3, 63, 64):
            last = LONGEST - n
            for m in (0, 1, 2, 63, 64, 2 ** 59 - 1, 2 ** 59, 2 ** 59 + 1, last // 3, last - 1, last):
                self.assert_find(118, r, [97] * n, m, m)
            self.assert_none_beyond(118, r, [97] * n, last + 1)
            self.assert_none_beyond(118, r, [97] * (n - 1) + [98], 0)

    def test_marks_at_the_beginning_in_the_middle_and_at_the_end(self):
        k, r = marked_list()
        middle = 2 ** 59 - 1
        last = 2 ** 60 - 2
        for pattern, place in ((b"x", 0), (b"xab", 0), (b"x" + b"ab" * 31, 0), (b"y", middle),
                               (b"byc", middle - 1), (b"ab" * 16 + b"y" + b"cd" * 15 + b"c", middle - 32),
                               (b"yc", middle), (b"z", last), (b"dz", last - 1), (b"cd" * 31 + b"z", last - 62)):
            self.assert_places(k, r, pattern, [place])
            self.assert_none_beyond(k, r, pattern, 1)
        for pattern in (b"zx", b"ayc", b"cz", b"yy", b"ac"):
            self.assert_none_beyond(k, r, pattern, 0)

    def test_often_before_the_middle_and_behind_it(self):
        k, r = marked_list()
        times = 2 ** 58 - 1
        for pattern, start, places in ((b"a", 1, times), (b"b", 2, times), (b"ab", 1, times),
                                       (b"ba", 2, times - 1), (b"ab" * 32, 1, times - 31),
                                       (b"c", 2 ** 59, times), (b"dc" * 32, 2 ** 59 + 1, times - 32)):
            for m in (0, 1, 2, 31, 32, 2 ** 57, places // 3, places - 2, places - 1):
                self.assert_find(k, r, pattern, m, start + 2 * m)
            self.assert_none_beyond(k, r, pattern, places)

    def test_fibonacci_words(self):
        k, r = 84, fibonacci(84)
        for start in (0, 3, 40):
            for n in (1, 2, 8, 55, 64):
                pattern = piece(start, n, k, r)[1:]
                places = places_by_rules(k, r, pattern)
                for m in (0, 1, places // 2, places - 1):
                    self.assert_rightly_found(k, r, pattern, m)
                self.assert_none_beyond(k, r, pattern, places)

    def test_drawn_lists(self):
        draw = random.Random(22)
        for letters in (b"a", b"ab", b"abc"):
            for size in (60, 120, 256):
                k, r = drawn_long_list(draw, letters, size, BOUND)
                other = cut_otherwise(draw, k, r, 256)
                for n in (1, 2, 10, 64):
                    pattern = piece(draw.randrange(length(k, r)[0] - n), n, k, r)[1:]
                    places = places_by_rules(k, r, pattern)
                    for m in (0, draw.randrange(places), places - 1):
                        place = self.assert_rightly_found(k, r, pattern, m)
                        self.assert_find(*other, pattern, m, place)
                    self.assert_find(k, r, pattern, places, -3)

    def test_other_rules_than_the_last_may_be_longer(self):
        for k in (60, 64, 255):
            r = doubling(k) + [98, 256 + 57]
            for m in (0, 1, 2 ** 57, 2 ** 58 - 1):
                self.assert_find(k + 1, r, b"a", m, m + 1)
            self.assert_find(k + 1, r, b"a", 2 ** 58, -3)
            self.assert_places(k + 1, r, b"ba", [0])


class RowsOfRules(Answers):
    def assert_in_few_frames(self, k, r, pattern, m, place):
        answer = answer_with_few_frames(find, (len(pattern), m, k, r, list(pattern)))
        self.assertEqual(answer, [place])

    def test_by_the_first_thing_and_by_the_second(self):
        for row in (row_by_first, row_by_second, row_by_turns):
            r = row(256)
            text = written_out(256, r)
            for n in (1, 2, 64):
                for start in (0, 1, 100, 191, 193, 255):
                    pattern = text[start:start + n]
                    places = all_places(text, pattern)
                    for m in (0, len(places) // 2, len(places) - 1):
                        self.assert_in_few_frames(256, r, pattern, m, places[m])
                    self.assert_in_few_frames(256, r, pattern, len(places), -3)
        self.assert_in_few_frames(256, row_by_first(256), b"abc", 0, 0)
        self.assert_in_few_frames(256, row_by_first(256), b"c" * 64, 191, 193)
        self.assert_in_few_frames(256, row_by_second(256), b"cab", 0, 254)

    def test_by_both_things(self):
        for row in (row_by_first, row_by_second, row_by_turns):
            text = written_out(205, row(205))
            r = doubled(row(205), 256)
            times = 2 ** 51
            for start in (0, 1, 100, 143, 180, 205):
                pattern = (text + text)[start:start + 64]
                within = len(all_places(text, pattern))
                places = [place for place in all_places(text + text, pattern) if place < len(text)]
                for turn in (0, 1, times // 2, times - 2):
                    for i in {0, len(places) // 2, len(places) - 1}:
                        m = turn * len(places) + i
                        self.assert_in_few_frames(256, r, pattern, m, turn * len(text) + places[i])
                # What reaches over into the next turn has none to reach into at the end.
                behind = (times - 1) * len(places) + within
                last = (times - 1) * len(text) + places[within - 1] if within else \
                    (times - 2) * len(text) + places[-1]
                self.assert_in_few_frames(256, r, pattern, behind - 1, last)
                self.assert_in_few_frames(256, r, pattern, behind, -3)

    def test_rows_behind_doubling(self):
        for start in (13, 58):
            r = row_behind_doubling(256, start)
            for pattern in (b"ab", b"ba" * 32, b"ab" * 32, [start, 97], [97, 98, start + 1]):
                pattern = list(pattern)
                places = places_by_rules(256, r, pattern)
                self.assert_in_few_frames(256, r, pattern, places, -3)
                for m in (0, places // 2, places - 1)[:places]:
                    self.assert_rightly_found(256, r, pattern, m)

    def test_one_rule_and_as_many_as_may_be(self):
        self.assert_places(1, [97, 98], b"ab", [0])
        self.assert_places(1, [97, 98], b"b", [1])
        self.assert_places(1, [97, 98], b"ba", [])
        self.assert_places(256, [97, 98] * 256, b"ab", [0])

    def test_the_answers_come_in_a_moment(self):
        draw = random.Random(23)
        for letters in (b"a", tuple(range(256))):
            k, r = drawn_long_list(draw, letters, 256, BOUND)
            pattern = piece(length(k, r)[0] - 64, 64, k, r)[1:]
            last = places_by_rules(k, r, pattern) - 1
            for m in (0, last, last + 1):
                start = time.process_time()
                find(64, m, k, r, pattern)
                # A hundred times what it takes; place by place it would never end.
                self.assertLess(time.process_time() - start, 10)


class Refusals(unittest.TestCase):
    numbers = (0, 1, -1, LONG_MIN, LONG_MAX)

    def test_wrong_sizes_of_patterns(self):
        for n in WRONG_SIZES:
            for k, r in ((1, [97, 98]), (118, one_below_bound()), (256, row_by_first(256))):
                for m in self.numbers:
                    self.assertEqual(find(n, m, k, r, []), [-3])

    def test_lists_that_are_refused(self):
        bad = [((k, []), -1) for k in WRONG_COUNTS]
        bad += [(each, -1) for each in BAD_LISTS] + [(each, -2) for each in LONG_LISTS]
        for ((k, r), refusal), m in itertools.product(bad, self.numbers):
            for p in ([97], [97, 98], [97] * 64):
                self.assertEqual(find(len(p), m, k, r, p), [refusal])
            for n in WRONG_SIZES:
                self.assertEqual(find(n, m, k, r, []), [refusal])

    def test_no_such_place(self):
        for m in self.numbers:
            self.assertEqual(find(1, m, 1, [97, 98], [99]), [-3])
            self.assertEqual(find(64, m, 1, [97, 98], [97] * 64), [-3])
        self.assertEqual(find(1, 1, 1, [97, 98], [97]), [-3])
        self.assertEqual(find(1, -1, 1, [97, 98], [97]), [-3])


class FindByItself(EachCallByItself, unittest.TestCase):
    lists = [(1, [97, 98]), (3, [97, 98, 256, 256, 257, 97]), (256, row_by_first(256)),
             (84, fibonacci(84)), marked_list(), (0, []), (257, []), BAD_LISTS[0], LONG_LISTS[0]]
    patterns = [(1, [97]), (2, [97, 98]), (64, [97, 98] * 32), (0, []), (65, [])]
    samples = [(find, (n, m, k, r, p))
               for (k, r), (n, p), m in itertools.product(lists, patterns, (0, 1, -1, 2 ** 57))]

    def test_one_number_alone(self):
        for call, args in self.samples:
            self.assertEqual(len(call(*args)), 1)

    def test_lists_that_are_changed_between_calls_are_looked_at_anew(self):
        r, p = [97, 98, 256, 256], [97, 98]
        self.assertEqual(find(2, 1, 2, r, p), [2])
        p[1] = 97
        self.assertEqual(find(2, 1, 2, r, p), [-3])
        r[1] = 97
        self.assertEqual(find(2, 1, 2, r, p), [1])
        r[3] = 257
        self.assertEqual(find(2, 1, 2, r, p), [-1])


if __name__ == "__main__":
    unittest.main()

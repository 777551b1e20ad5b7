"""Promise 1, and what stands ahead of it: check and length."""

import itertools
import unittest

from calls import EachCallByItself, answer_with_few_frames
from lists import BOUND, doubling, one_below_bound, row_by_first, row_by_second, written_out
from ruletexts.texts import check, length

SAMPLES = [
    (1, [97, 98]),
    (3, [97, 98, 256, 256, 257, 97]),
    (256, row_by_first(256)),
    (118, one_below_bound()),
    (60, doubling(60)),
    (2, [97, 98, 97, 257]),
    (0, []),
    (257, []),
]


class Answers(unittest.TestCase):
    def assert_length(self, k, r, letters):
        self.assertEqual(len(r), 2 * k)
        self.assertEqual(check(k, r), [0])
        self.assertEqual(length(k, r), [letters])

    def assert_refused(self, k, r, refusal):
        self.assertEqual(check(k, r), [refusal])
        self.assertEqual(length(k, r), [refusal])


class OrdinaryLists(Answers):
    def test_one_rule_of_two_bytes(self):
        self.assert_length(1, [97, 98], 2)
        self.assert_length(1, [0, 0], 2)

    def test_rules_that_name_rules_before_them(self):
        self.assert_length(2, [97, 98, 256, 256], 4)
        self.assert_length(2, [97, 98, 256, 99], 3)
        self.assert_length(2, [97, 98, 99, 256], 3)
        self.assert_length(3, [97, 98, 256, 256, 257, 256], 6)

    def test_a_rule_that_names_not_the_one_before_it_but_an_earlier_one(self):
        self.assert_length(4, [97, 98, 256, 256, 257, 257, 256, 97], 3)

    def test_fibonacci_words(self):
        r = [97, 98, 256, 97]
        for j in range(2, 80):
            r += [255 + j, 254 + j]
        before, last = 2, 3
        for k in range(2, 81):
            self.assert_length(k, r[:2 * k], last)
            before, last = last, before + last

    def test_rules_that_the_last_does_not_reach(self):
        self.assert_length(2, [97, 98, 99, 100], 2)
        self.assert_length(4, [97, 98, 256, 256, 257, 257, 256, 256], 4)

    def test_the_same_as_the_text_written_out(self):
        things = (0, 255, 256, 257, 258, 65535)
        for k in (1, 2, 3):
            for r in itertools.product(things, repeat=2 * k):
                text = written_out(k, r)
                if text is None:
                    self.assert_refused(k, list(r), -1)
                else:
                    self.assert_length(k, list(r), len(text))


class CountsOfRules(Answers):
    def test_every_count_that_may_be(self):
        for k in range(1, 257):
            self.assert_length(k, row_by_first(k), k + 1)
            self.assert_length(k, row_by_second(k), k + 1)

    def test_most_rules_that_name_none(self):
        self.assert_length(256, [97, 98] * 256, 2)

    def test_counts_that_may_not_be(self):
        for k in (0, -1, -2, -256, 257, 258, 512, -2147483648, 2147483647):
            with self.subTest(k=k):
                self.assert_refused(k, [], -1)


class ThingsThatARuleMayName(Answers):
    def test_the_first_rule_names_bytes_alone(self):
        self.assert_length(1, [255, 255], 2)
        self.assert_refused(1, [256, 0], -1)
        self.assert_refused(1, [0, 256], -1)
        self.assert_refused(1, [256, 256], -1)

    def test_the_greatest_thing_and_the_one_behind_it_in_each_last_rule(self):
        for k in range(2, 257):
            with self.subTest(k=k):
                start = row_by_first(k - 1)
                self.assert_length(k, start + [254 + k, 0], k + 1)
                self.assert_length(k, start + [0, 254 + k], k + 1)
                self.assert_refused(k, start + [255 + k, 0], -1)
                self.assert_refused(k, start + [0, 255 + k], -1)

    def test_a_later_rule(self):
        self.assert_refused(2, [257, 0, 97, 98], -1)
        self.assert_refused(2, [0, 257, 97, 98], -1)
        self.assert_refused(3, [97, 98, 0, 258, 97, 98], -1)
        self.assert_refused(3, [97, 98, 258, 0, 97, 98], -1)

    def test_two_rules_that_name_each_other(self):
        self.assert_refused(2, [257, 97, 256, 97], -1)

    def test_each_place_of_a_rule_that_names_itself(self):
        for bad in range(256):
            with self.subTest(bad=bad):
                r = row_by_second(256)
                r[2 * bad + bad % 2] = 256 + bad
                self.assert_refused(256, r, -1)

    def test_a_wrong_rule_that_the_last_does_not_reach(self):
        self.assert_refused(2, [97, 256, 97, 98], -1)
        self.assert_refused(3, [97, 98, 257, 97, 256, 256], -1)
        self.assert_refused(3, [97, 98, 97, 258, 256, 256], -1)

    def test_things_that_no_rule_has(self):
        for thing in (511, 512, 513, 767, 768, 32768, 65279, 65534, 65535):
            with self.subTest(thing=thing):
                self.assert_refused(1, [thing, 97], -1)
                self.assert_refused(1, [97, thing], -1)
                self.assert_refused(256, row_by_first(255) + [thing, 97], -1)
                self.assert_refused(256, row_by_first(255) + [97, thing], -1)
        self.assert_refused(256, [65535] * 512, -1)


class LongTexts(Answers):
    def test_every_power_below_the_bound(self):
        for k in range(1, 60):
            self.assert_length(k, doubling(k), 2 ** k)

    def test_one_letter_below_the_bound(self):
        r = one_below_bound()
        self.assert_length(len(r) // 2, r, BOUND - 1)

    def test_the_bound(self):
        self.assert_refused(60, doubling(60), -2)
        r = one_below_bound()
        last = 255 + len(r) // 2
        self.assert_refused(len(r) // 2 + 1, r + [last, 97], -2)
        self.assert_refused(len(r) // 2 + 1, r + [97, last], -2)

    def test_beyond_the_bound(self):
        self.assert_refused(61, doubling(60) + [315, 97], -2)
        r = one_below_bound()
        last = 255 + len(r) // 2
        self.assert_refused(len(r) // 2 + 1, r + [last, 256], -2)
        # The powers of 2 that a number of 32, 63, 64 or 128 bits would lose are among these.
        for k in range(61, 257):
            self.assert_refused(k, doubling(k), -2)

    def test_two_powers_whose_low_bits_are_few(self):
        # 2^64 + 2: what a number of 64 bits would take for 2.
        self.assert_refused(65, doubling(64) + [319, 256], -2)

    def test_other_rules_than_the_last_may_make_the_bound_or_more(self):
        for k in (60, 61, 63, 64, 65, 255):
            with self.subTest(k=k):
                self.assert_length(k + 1, doubling(k) + [97, 98], 2)
                self.assert_length(k + 1, doubling(k) + [256 + 57, 97], 2 ** 58 + 1)
                self.assert_refused(k + 1, doubling(k) + [256 + 59, 97], -2)

    def test_what_is_named_wrong_is_told_ahead_of_the_length(self):
        for k in (61, 100, 256):
            with self.subTest(k=k):
                first = doubling(k)
                first[1] = 256
                self.assert_refused(k, first, -1)
                self.assert_refused(k, doubling(k - 1) + [254 + k, 255 + k], -1)
                self.assert_refused(k, doubling(k - 1) + [254 + k, 65535], -1)

    def test_so_it_is_in_a_rule_that_the_last_does_not_reach(self):
        start = doubling(70)
        self.assert_refused(72, start + [97, 98, 325, 325], -2)
        self.assert_refused(72, start + [97, 326, 325, 325], -1)
        self.assert_refused(72, start + [327, 97, 325, 325], -1)


class CheckAndLengthByThemselves(EachCallByItself, unittest.TestCase):
    samples = list(itertools.product((check, length), SAMPLES))

    def test_a_list_that_is_changed_between_calls_is_looked_at_anew(self):
        r = [97, 98, 256, 256]
        self.assertEqual((check(2, r), length(2, r)), ([0], [4]))
        r[3] = 97
        self.assertEqual((check(2, r), length(2, r)), ([0], [3]))
        r[3] = 257
        self.assertEqual((check(2, r), length(2, r)), ([-1], [-1]))

    def test_one_number_alone(self):
        for call, (k, r) in self.samples:
            self.assertEqual(len(call(k, list(r))), 1)

    def test_a_row_of_rules_takes_few_calls_within_one_another(self):
        for r in (row_by_first(256), row_by_second(256)):
            self.assertEqual(answer_with_few_frames(length, (256, r)), [257])


if __name__ == "__main__":
    unittest.main()

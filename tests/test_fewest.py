"""Promise 5, what it says of fewest."""

import itertools
import random
import time
import unittest

from calls import EachCallByItself
from refusals import INT_MAX, INT_MIN
from ruletexts.texts import check, fewest, length, piece

WRONG_SIZES = (1, 0, -1, -2, -12, 13, 14, 24, INT_MIN, INT_MAX)

# How many additions lead from 1 to n, n from 2 to 12: of n letters alike, a rule is an addition.
ADDITIONS = {2: 1, 3: 2, 4: 2, 5: 3, 6: 3, 7: 4, 8: 3, 9: 4, 10: 4, 11: 5, 12: 4}

# Found by going through all sets of pieces of the text, from the shortest up: up to 11 seconds each.
SLOWLY_FOUND = (
    (b"bbaaaabbaaab", 7), (b"abaababbaabb", 7), (b"aaaaaabaaaba", 6), (b"abaabbababaa", 7),
    (b"bbabaaababba", 7), (b"bbabaabaabbb", 7), (b"aabaaaaababb", 7), (b"aaabaaaaaaaa", 6),
    (b"bbbbabbbbbba", 5), (b"abaaaaaaaaab", 6), (b"aabbbbbabbba", 7), (b"bbabbbbbbbba", 6),
    (b"bcaaabcaaccc", 8), (b"cccacaccacca", 6), (b"bacbacccccba", 7), (b"cbabbcccaabc", 10),
    (b"abbcabaaabaa", 7), (b"cbcbcaccaaac", 9), (b"cbccaacbaccc", 9), (b"bbbaabcbcbcc", 9),
    (b"bdabcccdbcbc", 9), (b"cbbcbcdccdba", 9), (b"daccbacdddda", 9), (b"dcdddbdddcac", 9),
    (b"cdedeaeadccc", 10), (b"eaccbadbbade", 9),
)

# Those that leave the most choices, of each number of letters; where all pieces differ, there are no more.
SLOW_TEXTS = (
    bytes([1, 0, 0, 1, 0, 1, 1, 0, 0, 0, 1, 1]), bytes([2, 1, 1, 2, 0, 2, 0, 1, 0, 0, 2, 2]),
    bytes([3, 1, 0, 2, 3, 3, 0, 3, 2, 0, 1, 3]), bytes([0, 1, 4, 2, 1, 1, 2, 4, 1, 0, 0, 4]),
    bytes(range(12)), bytes(range(244, 256)), b"a" * 12, b"ab" * 6, b"abcdef" * 2,
)


def fewest_by_all_lists(letters, size):
    """For each text of up to `size` letters over these, the fewest rules: all lists are gone through."""
    known = {}
    lists = {tuple(letters)}
    for k in range(1, size):
        longer = set()
        for made in lists:
            for text in {first + second for first in made for second in made}:
                if len(text) <= size:
                    known.setdefault(text, k)
                    # The order of the rules and a rule that stands twice make no other texts.
                    longer.add(tuple(sorted({text, *made})))
        lists = longer
    return known


def fewest_by_splitting(text):
    """The fewest of all ways to split the text in two, both parts in two, and so on down to letters."""
    numbers = {}
    ways = {(i, i + 1): {0} for i in range(len(text))}
    for size in range(2, len(text) + 1):
        for i in range(len(text) - size + 1):
            # The bits that are set tell which texts were split; what is split twice needs one rule.
            bit = 1 << numbers.setdefault(text[i:i + size], len(numbers))
            ways[i, i + size] = {first | second | bit for j in range(i + 1, i + size)
                                 for first in ways[i, j] for second in ways[j, i + size]}
    return min(bin(way).count("1") for way in ways[0, len(text)])


class Answers(unittest.TestCase):
    def assert_fewest(self, text, rules):
        self.assertEqual(fewest(len(text), list(text)), [rules], text)


class OrdinaryTexts(Answers):
    def test_all_short_texts_over_two_letters(self):
        known = fewest_by_all_lists((b"a", b"b"), 6)
        for n in range(2, 7):
            for text in itertools.product(b"ab", repeat=n):
                self.assert_fewest(bytes(text), known[bytes(text)])

    def test_short_texts_over_three_letters(self):
        known = fewest_by_all_lists((b"a", b"b", b"c"), 5)
        for n in range(2, 6):
            for text in itertools.product(b"abc", repeat=n):
                self.assert_fewest(bytes(text), known[bytes(text)])

    def test_texts_with_known_answers(self):
        for text, rules in ((b"ab", 1), (b"aa", 1), (b"aba", 2), (b"abab", 2), (b"abba", 3),
                            (b"aabaab", 3), (b"ababab", 3), (b"abcabc", 3), (b"abaababa", 4),
                            (b"abcabcabc", 4), (b"aabbaabb", 4), (b"abracadabra", 7)):
            self.assert_fewest(text, rules)

    def test_drawn_texts_of_all_sizes(self):
        draw = random.Random(30)
        for n in range(2, 12):
            for letters in range(2, n + 1):
                text = bytes(draw.randrange(letters) for _ in range(n))
                self.assert_fewest(text, fewest_by_splitting(text))


class TwelveLetters(Answers):
    def test_all_alike(self):
        for n, rules in ADDITIONS.items():
            for letter in (0, 97, 255):
                self.assert_fewest([letter] * n, rules)

    def test_all_different(self):
        for n in range(2, 13):
            self.assert_fewest(range(n), n - 1)
            self.assert_fewest(range(255, 255 - n, -1), n - 1)

    def test_two_letters_in_turns(self):
        for n in range(4, 13, 2):
            self.assert_fewest(b"ab" * (n // 2), 1 + ADDITIONS[n // 2])
        for n in range(3, 12, 2):
            self.assert_fewest((b"ab" * 6)[:n], fewest_by_splitting((b"ab" * 6)[:n]))

    def test_parts_that_are_alike(self):
        for part, rules in ((b"abcdef", 6), (b"abcabc", 4), (b"aabbab", 5), (b"aaaaab", 5)):
            self.assert_fewest(part * 2, rules)
        for part, rules in ((b"abcd", 5), (b"aaab", 5), (b"abab", 4)):
            self.assert_fewest(part * 3, rules)
        for part, rules in ((b"abc", 4), (b"aab", 4)):
            self.assert_fewest(part * 4, rules)

    def test_parts_that_lie_over_one_another(self):
        for text in (b"abcabcabdabc", b"abaababaabaa", b"aababaabaaba", b"abcdbcdacdab", b"aabaaabaaaab"):
            self.assert_fewest(text, fewest_by_splitting(text))

    def test_drawn_texts(self):
        draw = random.Random(31)
        for letters in (2, 2, 2, 2, 3, 3, 3, 4, 4, 5, 6, 8, 12, 256):
            for _ in range(3):
                text = bytes(draw.randrange(letters) for _ in range(12))
                self.assert_fewest(text, fewest_by_splitting(text))

    def test_answers_found_by_a_slower_way(self):
        for text, rules in SLOWLY_FOUND:
            self.assert_fewest(text, rules)

    def test_the_slowest_answer_within_seconds(self):
        for text in SLOW_TEXTS:
            start = time.process_time()
            fewest(12, list(text))
            # A hundred times what it takes and more.
            self.assertLess(time.process_time() - start, 5)


class Edges(Answers):
    def test_two_letters(self):
        for first, second in itertools.product((0, 1, 97, 254, 255), repeat=2):
            self.assert_fewest([first, second], 1)

    def test_the_first_letter_and_the_last(self):
        for n in range(2, 10):
            for text in itertools.islice(itertools.product((0, 255), repeat=n), 0, None, 7):
                self.assert_fewest(bytes(text), fewest_by_splitting(bytes(text)))
        self.assert_fewest([0, 255] * 6, 4)
        self.assert_fewest([255] * 12, 4)
        self.assert_fewest([0] * 12, 4)

    def test_other_letters_do_not_matter_nor_which_way_round(self):
        draw = random.Random(32)
        for _ in range(20):
            text = [draw.randrange(4) for _ in range(draw.randint(2, 12))]
            rules = fewest(len(text), text)[0]
            names = draw.sample(range(256), 4)
            self.assert_fewest([names[letter] for letter in text], rules)
            self.assert_fewest(text[::-1], rules)

    def test_texts_of_lists(self):
        # The text of a list of k rules never needs more than k.
        draw = random.Random(33)
        for _ in range(200):
            r = []
            k = draw.randint(1, 7)
            for j in range(k):
                r += [draw.choice([0, 255] + [256 + i for i in range(j)]) for _ in range(2)]
            n = length(k, r)[0]
            if n <= 12:
                self.assertEqual(check(k, r), [0])
                self.assertLessEqual(fewest(n, piece(0, n, k, r)[1:])[0], k)


class Refusals(unittest.TestCase):
    def test_wrong_sizes(self):
        for n in WRONG_SIZES:
            self.assertEqual(fewest(n, []), [-3])


class FewestByItself(EachCallByItself, unittest.TestCase):
    samples = [(fewest, (len(text), list(text))) for text in (b"ab", b"aa", b"aabab", b"abracadabra", b"ab" * 6)]
    samples += [(fewest, (n, [])) for n in (1, 0, -1, 13)]

    def test_one_number_alone(self):
        for call, args in self.samples:
            self.assertEqual(len(call(*args)), 1)

    def test_texts_that_are_changed_between_calls_are_looked_at_anew(self):
        text = [97, 98, 97, 98]
        self.assertEqual(fewest(4, text), [2])
        text[3] = 99
        self.assertEqual(fewest(4, text), [3])


if __name__ == "__main__":
    unittest.main()

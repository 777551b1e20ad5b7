"""Promise 5, what it says of factors."""

import itertools
import random
import time
import unittest

from calls import EachCallByItself, answer_with_few_frames
from refusals import INT_MAX, INT_MIN
from ruletexts.texts import factors

WRONG_SIZES = (-1, -2, -2048, 2049, 2050, 4096, INT_MIN, INT_MAX)


def stands_in(part, text):
    """Whether the part stands in the text, whole, tried place by place."""
    return any(text[i:i + len(part)] == part for i in range(len(text) - len(part) + 1))


def cut_by_the_words(text):
    """The sizes of the pieces, as the document's words have it: all beginnings of what's left are tried."""
    sizes = []
    start = 0
    while start < len(text):
        left = range(1, len(text) - start + 1)
        sizes.append(max([size for size in left if stands_in(text[start:start + size], text[:start])],
                         default=1))
        start += sizes[-1]
    return sizes


def cut_by_search(text):
    """The same for long texts, by the search that Python's bytes have."""
    text = bytes(text)
    sizes = []
    start = 0
    while start < len(text):
        size = 1
        # What begins with something that doesn't stand there doesn't stand there either.
        while start + size < len(text) and text[start:start + size + 1] in text[:start]:
            size += 1
        sizes.append(size)
        start += size
    return sizes


def runs(draw, letters):
    """Runs of one letter with another letter behind each, 2048 letters in all."""
    text = [0] * 1024
    while len(text) < 2048:
        text += [0] * draw.randrange(30) + [draw.choice(letters)]
    return text[:2048]


def new_pairs(draw):
    """2048 letters of which no two neighbours came before as neighbours: nearly all pieces are of one letter."""
    text = list(range(256))
    seen = set(zip(text, text[1:]))
    while len(text) < 2048:
        letter = draw.choice([letter for letter in range(256) if (text[-1], letter) not in seen])
        seen.add((text[-1], letter))
        text.append(letter)
    return text


class Answers(unittest.TestCase):
    def assert_sizes(self, text, sizes):
        answer = factors(len(text), list(text))
        self.assertEqual(answer, [len(sizes)] + list(sizes), text)
        self.assertEqual(sum(answer[1:]), len(text))


class OrdinaryTexts(Answers):
    def test_texts_with_known_answers(self):
        for text, sizes in ((b"ab", [1, 1]), (b"aa", [1, 1]), (b"aaa", [1, 1, 1]), (b"aaaa", [1, 1, 2]),
                            (b"abab", [1, 1, 2]), (b"ababab", [1, 1, 2, 2]), (b"abababab", [1, 1, 2, 4]),
                            (b"abcabcx", [1, 1, 1, 3, 1]), (b"abracadabra", [1, 1, 1, 1, 1, 1, 1, 4]),
                            (b"abaab", [1, 1, 1, 2]), (b"xabcyabcabcab", [1, 1, 1, 1, 1, 3, 3, 2])):
            self.assert_sizes(text, sizes)

    def test_a_piece_does_not_reach_into_itself(self):
        for n in range(1, 65):
            sizes = [1]
            while sum(sizes) < n:
                sizes.append(min(sum(sizes), n - sum(sizes)))
            self.assert_sizes(b"a" * n, sizes)

    def test_all_short_texts_over_two_letters(self):
        for n in range(9):
            for text in itertools.product(b"ab", repeat=n):
                self.assert_sizes(bytes(text), cut_by_the_words(text))

    def test_drawn_texts_over_three_letters(self):
        draw = random.Random(40)
        for _ in range(300):
            text = bytes(draw.choice(b"abc") for _ in range(draw.randrange(60)))
            self.assert_sizes(text, cut_by_the_words(text))

    def test_drawn_texts_over_others(self):
        draw = random.Random(41)
        for letters in (1, 2, 5, 20, 256):
            for _ in range(20):
                text = bytes(draw.randrange(letters) for _ in range(draw.randrange(100)))
                self.assert_sizes(text, cut_by_the_words(text))

    def test_texts_made_of_what_came_before(self):
        draw = random.Random(42)
        for _ in range(60):
            text = b"ab"
            while len(text) < 120:
                start = draw.randrange(len(text))
                text += text[start:start + draw.randrange(1, 40)] + draw.choice((b"", b"", b"a", b"c"))
            self.assert_sizes(text, cut_by_the_words(text))


class Edges(Answers):
    def test_none_and_one_and_two(self):
        self.assertEqual(factors(0, []), [0])
        for letter in (0, 1, 97, 254, 255):
            self.assertEqual(factors(1, [letter]), [1, 1])
            self.assertEqual(factors(2, [letter, letter]), [2, 1, 1])
            self.assertEqual(factors(2, [letter, 3]), [2, 1, 1])

    def test_the_first_letter_and_the_last(self):
        for n in range(9):
            for text in itertools.product((0, 255), repeat=n):
                self.assert_sizes(bytes(text), cut_by_the_words(text))

    def test_each_letter_by_itself_and_then_all_at_once(self):
        self.assert_sizes(range(256), [1] * 256)
        self.assert_sizes(list(range(256)) * 2, [1] * 256 + [256])
        self.assert_sizes(list(range(256)) * 8, [1] * 256 + [256, 512, 1024])

    def test_the_last_piece_ends_with_the_text(self):
        self.assert_sizes(b"abcdabc", [1, 1, 1, 1, 3])
        self.assert_sizes(b"abcdabcdab", [1, 1, 1, 1, 4, 2])

    def test_what_stands_just_before_and_at_the_beginning(self):
        self.assert_sizes(b"abcdcd", [1, 1, 1, 1, 2])
        self.assert_sizes(b"abcdab", [1, 1, 1, 1, 2])
        # From the nearer place "cdc" would reach into itself; from the farther one it is "cda".
        self.assert_sizes(b"cdacdcdc", [1, 1, 1, 2, 2, 1])


class LongTexts(Answers):
    def assert_soon(self, text):
        """As the search has it, within seconds."""
        self.assertEqual(len(text), 2048)
        start = time.process_time()
        answer = factors(2048, list(text))
        # Thirty times what the slowest take.
        self.assertLess(time.process_time() - start, 5)
        sizes = cut_by_search(text)
        self.assertEqual(answer, [len(sizes)] + sizes)
        return sizes

    def test_all_alike(self):
        for letter in (0, 97, 255):
            self.assertEqual(self.assert_soon([letter] * 2048), [1] + [2 ** i for i in range(11)])

    def test_two_letters_in_turns(self):
        self.assertEqual(self.assert_soon([0, 255] * 1024), [1] + [2 ** i for i in range(11)])
        self.assert_soon([255, 0, 255] * 682 + [255, 0])

    def test_drawn_over_two_letters_and_over_all(self):
        draw = random.Random(43)
        for letters in (2, 3, 16, 256):
            self.assert_soon([draw.randrange(letters) for _ in range(2048)])

    def test_a_second_half_that_is_the_first(self):
        draw = random.Random(44)
        for letters in (2, 256):
            half = [draw.randrange(letters) for _ in range(1024)]
            sizes = cut_by_search(half)
            # The piece that ends the first half may reach over into the second.
            whole = self.assert_soon(half + half)
            self.assertEqual(whole[:len(sizes) - 1], sizes[:-1])
        half = list(range(256)) * 3 + [draw.randrange(256) for _ in range(255)] + [255]
        self.assert_soon(half + half)
        half = [1] * 1023 + [0]
        self.assertEqual(self.assert_soon(half + half)[-1], 1024)

    def test_texts_that_make_the_cutting_slow(self):
        draw = random.Random(45)
        self.assert_soon(new_pairs(draw))
        self.assert_soon(runs(draw, [1]))
        self.assert_soon(runs(draw, range(1, 256)))
        self.assert_soon(([0] * 682 + [1]) * 2 + [0] * 682)
        growing = [letter for size in range(1, 70) for letter in [0] * size + [1]]
        self.assert_soon(growing[:2048])
        pairs = [letter for first in range(64) for second in range(first) for letter in (first, second)]
        self.assert_soon(pairs[:2048])

    def test_words_that_hold_themselves(self):
        shorter, longer = [0], [0, 1]
        while len(longer) < 2048:
            shorter, longer = longer, longer + shorter
        self.assert_soon(longer[:2048])
        word = [0]
        while len(word) < 2048:
            word += [1 - letter for letter in word]
        self.assert_soon(word)

    def test_sizes_next_to_the_longest(self):
        for n in (2046, 2047, 2048):
            text = [i * i % 251 for i in range(n)]
            self.assert_sizes(text, cut_by_search(text))

    def test_few_calls_within_one_another(self):
        for text in ([97] * 2048, [i * i % 256 for i in range(2048)], new_pairs(random.Random(46))):
            sizes = cut_by_search(text)
            self.assertEqual(answer_with_few_frames(factors, (2048, text)), [len(sizes)] + sizes)


class Refusals(unittest.TestCase):
    def test_wrong_sizes(self):
        for n in WRONG_SIZES:
            self.assertEqual(factors(n, []), [-3])


class FactorsByItself(EachCallByItself, unittest.TestCase):
    samples = [(factors, (len(text), list(text)))
               for text in (b"", b"a", b"ab", b"aaaa", b"abracadabra", b"ab" * 50, bytes(range(256)) * 8)]
    samples += [(factors, (n, [])) for n in (-1, 2049, INT_MIN, INT_MAX)]

    def test_as_many_sizes_as_the_first_number_says(self):
        for call, args in self.samples:
            answer = call(*args)
            self.assertEqual(len(answer), 1 + max(0, answer[0]))
            self.assertTrue(all(size > 0 for size in answer[1:]))
            self.assertEqual(sum(answer[1:]), len(args[1]))

    def test_texts_that_are_changed_between_calls_are_looked_at_anew(self):
        text = [97, 98, 97, 98]
        self.assertEqual(factors(4, text), [3, 1, 1, 2])
        text[3] = 97
        self.assertEqual(factors(4, text), [4, 1, 1, 1, 1])


if __name__ == "__main__":
    unittest.main()

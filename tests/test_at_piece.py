"""Promise 2, and what stands ahead of it: at and piece."""

import random
import time
import unittest

from calls import EachCallByItself, answer_with_few_frames
from lists import (BOUND, doubled, doubling, drawn_list, fibonacci, marked_list, one_below_bound,
                   row_behind_doubling, row_by_first, row_by_second, row_by_turns, small_lists,
                   written_out)
from refusals import BAD_LISTS, INT_MAX, INT_MIN, LONG_LISTS, LONG_MAX, LONG_MIN, WRONG_COUNTS
from ruletexts.texts import at, check, length, piece

ABABA = [97, 98, 256, 256, 257, 97]
WRONG_PLACES = (-1, -2, LONG_MIN, LONG_MAX, BOUND)
WRONG_SIZES = (-1, -2, 4097, 4098, 8192, 65536, INT_MIN, INT_MAX)


def marked_letter(i):
    """The letter i of the text that marked_list makes."""
    marks = {0: 120, 2 ** 59 - 1: 121, 2 ** 60 - 2: 122}
    if i in marks:
        return marks[i]
    if i < 2 ** 59 - 1:
        return 97 + (i - 1) % 2
    return 99 + (i - 2 ** 59) % 2


def marked_places():
    """Places at the beginning, in the middle, at the end and between."""
    places = [start + step for start in (0, 2 ** 58, 2 ** 59 - 5, 3 * 2 ** 58, 2 ** 60 - 12)
              for step in range(11)]
    return places + [2 ** e for e in range(60)] + [2 ** 60 - 2 ** e for e in range(1, 60)]


class TextsWrittenOut(unittest.TestCase):
    def assert_letters(self, k, r, text):
        self.assertEqual([at(i, k, r) for i in range(len(text))], [[letter] for letter in text])
        for i in (-1, len(text), len(text) + 1, LONG_MIN, LONG_MAX):
            self.assertEqual(at(i, k, r), [-3])

    def assert_pieces(self, k, r, text, sizes):
        for a in range(len(text) + 1):
            for n in sizes:
                letters = text[a:a + n]
                self.assertEqual(piece(a, n, k, r), [len(letters)] + letters)

    def assert_text(self, k, r):
        text = written_out(k, r)
        self.assert_letters(k, r, text)
        self.assert_pieces(k, r, text, list(range(len(text) + 2)) + [4096])

    def test_a_few_rules(self):
        self.assertEqual([at(i, 3, ABABA) for i in range(5)], [[97], [98], [97], [98], [97]])
        self.assertEqual(piece(0, 5, 3, ABABA), [5, 97, 98, 97, 98, 97])
        self.assertEqual(piece(1, 3, 3, ABABA), [3, 98, 97, 98])
        self.assertEqual(piece(4, 1, 3, ABABA), [1, 97])

    def test_lists_of_few_rules(self):
        for k, r in small_lists((97, 98, 256, 257), 3):
            self.assert_text(k, r)

    def test_drawn_lists(self):
        draw = random.Random(2)
        for _ in range(300):
            k, r = drawn_list(draw, (0, 1, 97, 255), 8)
            text = written_out(k, r)
            if len(text) < 40:
                self.assert_text(k, r)
            else:
                self.assert_letters(k, r, text)
                self.assert_pieces(k, r, text, (0, 1, 2, len(text) // 2, len(text), 4096))

    def test_every_byte(self):
        for byte in range(256):
            r = [byte, 255 - byte]
            self.assertEqual([at(0, 1, r), at(1, 1, r)], [[byte], [255 - byte]])
            self.assertEqual(piece(0, 2, 1, r), [2, byte, 255 - byte])

    def test_rules_that_the_last_does_not_reach(self):
        for k in (1, 60, 64, 255):
            r = doubling(k) + [1, 2]
            self.assert_text(k + 1, r)
        self.assert_text(4, [97, 98, 256, 256, 257, 257, 256, 99])


class Edges(unittest.TestCase):
    def test_the_places_that_have_a_letter(self):
        for i, answer in ((0, [97]), (4, [97]), (5, [-3]), (6, [-3]), (-1, [-3]), (-5, [-3]),
                          (LONG_MIN, [-3]), (LONG_MAX, [-3])):
            self.assertEqual(at(i, 3, ABABA), answer)

    def test_the_places_that_a_piece_may_begin_at(self):
        for a, answer in ((0, [2, 97, 98]), (3, [2, 98, 97]), (4, [1, 97]), (5, [0]), (6, [-3]),
                          (-1, [-3]), (LONG_MIN, [-3]), (LONG_MAX, [-3])):
            self.assertEqual(piece(a, 2, 3, ABABA), answer)

    def test_a_piece_of_no_letters(self):
        for a in range(6):
            self.assertEqual(piece(a, 0, 3, ABABA), [0])
        for n in (0, 1, 2, 4096):
            self.assertEqual(piece(5, n, 3, ABABA), [0])
        self.assertEqual(piece(6, 0, 3, ABABA), [-3])
        self.assertEqual(piece(-1, 0, 3, ABABA), [-3])

    def test_the_sizes_that_a_piece_may_have(self):
        r = doubling(14)
        for n in (0, 1, 2, 4095, 4096):
            self.assertEqual(piece(0, n, 14, r), [n] + [97] * n)
            self.assertEqual(piece(5000, n, 14, r), [n] + [97] * n)
        for n in WRONG_SIZES:
            self.assertEqual(piece(0, n, 14, r), [-3])
            self.assertEqual(piece(2 ** 14, n, 14, r), [-3])

    def test_a_wrong_size_where_fewer_letters_are_there(self):
        for n in WRONG_SIZES:
            for a in (0, 4, 5):
                self.assertEqual(piece(a, n, 3, ABABA), [-3])

    def test_wrong_places_with_wrong_sizes(self):
        for n in WRONG_SIZES:
            for a in WRONG_PLACES:
                self.assertEqual(piece(a, n, 3, ABABA), [-3])

    def test_a_piece_that_reaches_beyond_the_end(self):
        self.assertEqual(piece(0, 6, 3, ABABA), [5, 97, 98, 97, 98, 97])
        self.assertEqual(piece(3, 3, 3, ABABA), [2, 98, 97])
        self.assertEqual(piece(4, 4096, 3, ABABA), [1, 97])
        r = doubling(12)
        for a in (0, 1, 2, 2048, 4095, 4096):
            self.assertEqual(piece(a, 4096, 12, r), [4096 - a] + [97] * (4096 - a))


class LongTexts(unittest.TestCase):
    def test_the_list_is_as_long_as_may_be(self):
        k, r = marked_list()
        self.assertEqual((check(k, r), length(k, r)), ([0], [BOUND - 1]))

    def test_letters_at_the_beginning_in_the_middle_and_at_the_end(self):
        k, r = marked_list()
        for i in marked_places():
            self.assertEqual(at(i, k, r), [marked_letter(i)], i)
        for i in (-1, BOUND - 1, BOUND, BOUND + 1, LONG_MIN, LONG_MAX):
            self.assertEqual(at(i, k, r), [-3], i)

    def test_pieces_at_the_beginning_in_the_middle_and_at_the_end(self):
        k, r = marked_list()
        middle, end = 2 ** 59 - 1, BOUND - 1
        for a in (0, 1, 2, 2 ** 40 - 2048, middle - 4096, middle - 4095, middle - 2000, middle,
                  middle + 1, end - 4097, end - 4096, end - 4095, end - 2, end - 1, end):
            for n in (0, 1, 2, 7, 4095, 4096):
                letters = [marked_letter(i) for i in range(a, min(a + n, end))]
                self.assertEqual(piece(a, n, k, r), [len(letters)] + letters, (a, n))
        for a in (-1, end + 1, end + 2, LONG_MIN, LONG_MAX):
            self.assertEqual(piece(a, 1, k, r), [-3], a)

    def test_one_letter_only(self):
        r = one_below_bound()
        self.assertEqual(at(BOUND - 2, 118, r), [97])
        self.assertEqual(at(BOUND - 1, 118, r), [-3])
        self.assertEqual(piece(BOUND - 1, 4096, 118, r), [0])
        self.assertEqual(piece(BOUND, 4096, 118, r), [-3])
        self.assertEqual(piece(BOUND - 2, 4096, 118, r), [1, 97])
        self.assertEqual(piece(BOUND // 2, 4096, 118, r), [4096] + [97] * 4096)

    def test_fibonacci_words(self):
        k = 84
        r = fibonacci(k)
        start = written_out(20, fibonacci(20))
        whole = length(k, r)[0]
        self.assertEqual(piece(0, 4096, k, r), [4096] + start[:4096])
        self.assertEqual([at(i, k, r)[0] for i in range(500)], start[:500])
        # Each rule ends with the one two before it, so all odd ones end alike.
        self.assertEqual(piece(whole - 4096, 4096, k, r), [4096] + start[-4096:])
        # Where the last rule's two things meet, its second begins as all of them do.
        meeting = length(k - 1, fibonacci(k - 1))[0]
        self.assertEqual(piece(meeting, 4096, k, r), [4096] + start[:4096])

    def test_other_rules_than_the_last_may_be_longer(self):
        for k in (60, 64, 128, 255):
            r = doubling(k) + [98, 256 + 57]
            self.assertEqual(at(0, k + 1, r), [98])
            self.assertEqual(at(2 ** 58, k + 1, r), [97])
            self.assertEqual(at(2 ** 58 + 1, k + 1, r), [-3])
            self.assertEqual(piece(0, 3, k + 1, r), [3, 98, 97, 97])


class RowsOfRules(unittest.TestCase):
    def assert_whole(self, k, r):
        text = written_out(k, r)
        size = len(text)
        for a in {0, 1, size // 3, size // 2, max(0, size - 4097), size - 1, size}:
            letters = text[a:a + 4096]
            answer = answer_with_few_frames(piece, (a, 4096, k, r))
            self.assertEqual(answer, [len(letters)] + letters)
            if a < size:
                self.assertEqual(answer_with_few_frames(at, (a, k, r)), [text[a]])
        self.assertEqual(at(size, k, r), [-3])

    def test_by_the_first_thing(self):
        self.assert_whole(256, row_by_first(256))

    def test_by_the_second_thing(self):
        self.assert_whole(256, row_by_second(256))

    def test_by_turns(self):
        self.assert_whole(256, row_by_turns(256))

    def test_each_letter_of_a_row(self):
        for r in (row_by_first(256), row_by_second(256), row_by_turns(256)):
            text = written_out(256, r)
            self.assertEqual([at(i, 256, r)[0] for i in range(257)], text)

    def test_by_both_things_at_the_end_of_a_row(self):
        for row in (row_by_first, row_by_second, row_by_turns):
            self.assert_whole(256, doubled(row(250), 256))

    def test_by_both_things_at_the_beginning_of_a_row(self):
        self.assert_whole(256, row_behind_doubling(256, 13))

    def test_by_both_things_as_often_as_may_be(self):
        # Of rows of 256 rules these make the longest texts that short rows and doubling make.
        k, times = 256, 51
        row = row_by_turns(k - times)
        text = written_out(k - times, row)
        r = doubled(row, k)
        size = len(text) * 2 ** times
        self.assertEqual(length(k, r), [size])
        for a in (0, 1, 205, 206, size // 2 - 100, size - 4096, size - 1, size):
            letters = [text[i % len(text)] for i in range(a, min(a + 4096, size))]
            self.assertEqual(answer_with_few_frames(piece, (a, 4096, k, r)),
                             [len(letters)] + letters)
            if a < size:
                self.assertEqual(answer_with_few_frames(at, (a, k, r)), [text[a % len(text)]])
        self.assertEqual(piece(0, 4096, 256, doubling(256)), [-2])

    def test_the_answers_come_in_a_moment(self):
        k, r = marked_list()
        row = doubled(row_by_turns(205), 256)
        start = time.process_time()
        for a in range(0, BOUND - 1, BOUND // 20):
            at(a, k, r)
            piece(a, 4096, k, r)
        for a in range(0, length(256, row)[0], length(256, row)[0] // 20):
            at(a, 256, row)
            piece(a, 4096, 256, row)
        # A hundred times what it takes; letter by letter it would never end.
        self.assertLess(time.process_time() - start, 20)


class RefusedLists(unittest.TestCase):
    def assert_refused(self, k, r, refusal):
        for i in (0, 1) + WRONG_PLACES:
            self.assertEqual(at(i, k, r), [refusal])
            for n in (0, 1, 4096) + WRONG_SIZES:
                self.assertEqual(piece(i, n, k, r), [refusal])

    def test_wrong_counts(self):
        for k in WRONG_COUNTS:
            self.assert_refused(k, [], -1)

    def test_rules_that_name_what_they_may_not(self):
        for k, r in BAD_LISTS:
            self.assert_refused(k, r, -1)

    def test_texts_that_are_too_long(self):
        for k, r in LONG_LISTS:
            self.assert_refused(k, r, -2)


class AtAndPieceByThemselves(EachCallByItself, unittest.TestCase):
    lists = [(1, [97, 98]), (3, ABABA), (256, row_by_first(256)), marked_list(),
             (256, row_behind_doubling(256, 58)), (0, []), (257, []), BAD_LISTS[0], LONG_LISTS[0]]
    samples = ([(at, (i, k, r)) for k, r in lists for i in (0, 1, 4, -1, 2 ** 59, LONG_MAX)]
               + [(piece, (a, n, k, r)) for k, r in lists for a in (0, 1, 5, -1, 2 ** 59)
                  for n in (0, 1, 300, 4096, 4097)])

    def test_at_answers_one_number(self):
        for call, args in self.samples:
            if call is at:
                self.assertEqual(len(at(*args)), 1)

    def test_piece_answers_how_many_letters_and_these(self):
        for call, args in self.samples:
            answer = call(*args)
            if call is piece and answer[0] >= 0:
                self.assertEqual(len(answer), 1 + answer[0])
                self.assertTrue(all(0 <= letter < 256 for letter in answer[1:]))

    def test_a_list_that_is_changed_between_calls_is_looked_at_anew(self):
        r = [97, 98, 256, 99]
        self.assertEqual((at(2, 2, r), piece(1, 5, 2, r)), ([99], [2, 98, 99]))
        r[3] = 256
        self.assertEqual((at(2, 2, r), piece(1, 5, 2, r)), ([97], [3, 98, 97, 98]))
        r[3] = 257
        self.assertEqual((at(2, 2, r), piece(1, 5, 2, r)), ([-1], [-1]))


if __name__ == "__main__":
    unittest.main()

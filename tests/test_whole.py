"""What the document says of all nine functions at once."""

import inspect
import json
import os
import random
import subprocess
import sys
import unittest

from calls import EachCallByItself, copied
from lists import (BOUND, doubling, drawn_long_list, fibonacci, marked_list, one_below_bound,
                   row_by_first, row_by_second, row_by_turns)
from refusals import BAD_LISTS, INT_MAX, INT_MIN, LONG_LISTS, LONG_MAX, LONG_MIN
from ruletexts import texts
from ruletexts.texts import at, check, count, factors, fewest, find, length, piece, same

TOP = os.path.dirname(os.path.dirname(os.path.abspath(__file__)))

PARAMETERS = {
    check: ["k", "r"],
    length: ["k", "r"],
    at: ["i", "k", "r"],
    piece: ["a", "n", "k", "r"],
    same: ["k", "r", "j", "s"],
    count: ["n", "k", "r", "p"],
    find: ["n", "m", "k", "r", "p"],
    fewest: ["n", "t"],
    factors: ["n", "t"],
}

LISTS = [(1, [97, 98]), (3, [97, 98, 256, 256, 257, 97]), (256, row_by_first(256)), (84, fibonacci(84)),
         (118, one_below_bound()), marked_list(), (0, []), BAD_LISTS[0], LONG_LISTS[0]]


def samples_of_all():
    """Calls of all nine, answered ones and refused ones."""
    samples = []
    for k, r in LISTS:
        samples += [(check, (k, r)), (length, (k, r)), (at, (1, k, r)), (at, (LONG_MAX, k, r)),
                    (piece, (1, 70, k, r)), (piece, (LONG_MIN, 1, k, r)), (same, (k, r, 3, LISTS[1][1])),
                    (same, (84, fibonacci(84), k, r)), (count, (2, k, r, [97, 98])), (count, (65, k, r, [])),
                    (find, (2, 0, k, r, [97, 98])), (find, (1, 5, k, r, [99])), (find, (0, 0, k, r, []))]
    for text in (b"ab", b"abracadabra", b"aabaaabaaaab"):
        samples += [(fewest, (len(text), list(text))), (factors, (len(text), list(text)))]
    samples += [(fewest, (13, [])), (factors, (0, [])), (factors, (2049, [])), (factors, (2048, [0, 255] * 1024))]
    return samples


def run_alone(lines):
    """What a Python of its own prints that is handed these lines."""
    env = dict(os.environ, PYTHONPATH=TOP, PYTHONDONTWRITEBYTECODE="1")
    done = subprocess.run([sys.executable, "-"], input="\n".join(lines), env=env, cwd=TOP,
                          capture_output=True, text=True, timeout=120, check=True)
    return done.stdout + done.stderr


class Interface(unittest.TestCase):
    def test_names_and_parameters(self):
        for call, names in PARAMETERS.items():
            self.assertIs(getattr(texts, call.__name__), call)
            self.assertEqual(list(inspect.signature(call).parameters), names)

    def test_handed_in_by_place_and_by_name(self):
        for call, args in samples_of_all()[:40] + samples_of_all()[-10:]:
            named = dict(zip(PARAMETERS[call], copied(args)))
            self.assertEqual(call(**named), call(*copied(args)))


class OneAfterAnother(EachCallByItself, unittest.TestCase):
    samples = samples_of_all()

    def test_all_nine_are_among_the_samples(self):
        self.assertEqual({call for call, _ in self.samples}, set(PARAMETERS))

    def test_in_different_orders(self):
        once = [call(*copied(args)) for call, args in self.samples]
        for seed in range(6):
            order = list(range(len(self.samples)))
            random.Random(seed).shuffle(order)
            for i in order:
                call, args = self.samples[i]
                self.assertEqual(call(*copied(args)), once[i])

    def test_each_behind_each(self):
        picked = {}
        for call, args in self.samples:
            picked.setdefault(call, (call, args, call(*copied(args))))
        for before, handed, _ in picked.values():
            for call, args, answer in picked.values():
                before(*copied(handed))
                self.assertEqual(call(*copied(args)), answer)

    def test_as_in_a_python_of_its_own(self):
        # One of each function that is answered and one that is refused, each by itself.
        picked = {}
        for call, args in self.samples:
            answer = call(*copied(args))
            picked.setdefault((call, answer[0] < 0), (args, answer))
        self.assertEqual(len(picked), 2 * len(PARAMETERS))
        for (call, _), (args, answer) in picked.items():
            numbers = ", ".join(json.dumps(arg) for arg in args)
            lines = [f"from ruletexts.texts import {call.__name__}", f"print({call.__name__}({numbers}))"]
            self.assertEqual(run_alone(lines), f"{answer}\n")

    def test_none_of_them_prints(self):
        lines = ["import ruletexts.texts"]
        for call, args in self.samples:
            numbers = ", ".join(json.dumps(arg) for arg in args)
            lines.append(f"ruletexts.texts.{call.__name__}({numbers})")
        self.assertEqual(run_alone(lines), "")

    def test_no_other_module_is_drawn_in(self):
        lines = ["import sys", "before = set(sys.modules)", "import ruletexts.texts"]
        for call, args in self.samples[:13] + self.samples[-10:]:
            numbers = ", ".join(json.dumps(arg) for arg in args)
            lines.append(f"ruletexts.texts.{call.__name__}({numbers})")
        lines.append("print([name for name in sys.modules if name not in before and not name.startswith('ruletexts')])")
        self.assertEqual(run_alone(lines), "[]\n")


class AnswersThatFitTogether(unittest.TestCase):
    def lists(self):
        draw = random.Random(50)
        rows = [(256, row(256)) for row in (row_by_first, row_by_second, row_by_turns)]
        drawn = [drawn_long_list(draw, letters, k, BOUND) for letters in (b"ab", b"abc") for k in (20, 100, 256)]
        return rows + drawn + [marked_list(), (59, doubling(59)), (1, [0, 255])]

    def test_lengths_letters_and_pieces(self):
        for k, r in self.lists():
            self.assertEqual(check(k, r), [0])
            size = length(k, r)[0]
            self.assertEqual(same(k, r, k, r), [size])
            self.assertEqual(piece(size, 1, k, r), [0])
            for place in (0, size // 2, size - 1):
                self.assertEqual(at(place, k, r), piece(place, 1, k, r)[1:])
            self.assertEqual(at(size, k, r), [-3])

    def test_places_and_pieces(self):
        for k, r in self.lists():
            size = length(k, r)[0]
            n = min(size, 20)
            pattern = piece((size - n) // 2, n, k, r)[1:]
            places = count(n, k, r, pattern)[0]
            found = [find(n, m, k, r, pattern)[0] for m in (0, places // 2, places - 1)]
            self.assertEqual(found, sorted(found))
            for place in found:
                self.assertEqual(piece(place, n, k, r), [n] + pattern)
            self.assertEqual(find(n, places, k, r, pattern), [-3])

    def test_short_texts(self):
        for k, r in self.lists():
            size = min(length(k, r)[0], 12)
            text = piece(0, size, k, r)[1:]
            rules = fewest(size, text)[0]
            self.assertTrue(1 <= rules <= size - 1)
            self.assertEqual(sum(factors(size, text)[1:]), size)

    def test_each_refuses_what_the_others_refuse(self):
        for (k, r), refusal in [((0, []), -1), ((INT_MIN, []), -1), ((INT_MAX, []), -1),
                                (BAD_LISTS[0], -1), (LONG_LISTS[0], -2)]:
            for answer in (check(k, r), length(k, r), at(-1, k, r), piece(-1, -1, k, r),
                           same(k, r, 1, [97, 98]), same(1, [97, 98], k, r), count(0, k, r, []),
                           find(0, -1, k, r, [])):
                self.assertEqual(answer, [refusal])


if __name__ == "__main__":
    unittest.main()

"""What holds of every call, whatever it answers. Used by the tests of each function."""

import builtins
import io
import sys
from unittest import mock

from lists import ReadOnlyList


def copied(args):
    """The arguments, each list of them a new one."""
    return [list(arg) if isinstance(arg, list) else arg for arg in args]


def guarded(args):
    """The arguments, each list of them one that may not be changed."""
    return [ReadOnlyList(arg) if isinstance(arg, list) else arg for arg in args]


def frames():
    """How many calls stand within one another here."""
    depth = 0
    frame = sys._getframe()
    while frame is not None:
        depth += 1
        frame = frame.f_back
    return depth


def answer_with_few_frames(call, args):
    """What the call answers where it may not go more than 60 calls deep."""
    limit = sys.getrecursionlimit()
    sys.setrecursionlimit(frames() + 60)
    try:
        return call(*args)
    finally:
        sys.setrecursionlimit(limit)


class EachCallByItself:
    """Tests of `samples`, pairs of a function and its arguments."""

    samples = ()

    def test_a_new_list_of_whole_numbers(self):
        for call, args in self.samples:
            handed = copied(args)
            answer = call(*handed)
            self.assertIs(type(answer), list)
            self.assertEqual({type(number) for number in answer}, {int})
            self.assertFalse(any(answer is arg for arg in handed))

    def test_a_refusal_is_its_number_alone(self):
        answers = [call(*copied(args)) for call, args in self.samples]
        refusals = [answer for answer in answers if answer[0] < 0]
        self.assertTrue(refusals)
        for refusal in refusals:
            self.assertIn(refusal, ([-1], [-2], [-3]))

    def test_what_is_handed_in_is_not_changed(self):
        for call, args in self.samples:
            handed = guarded(args)
            call(*handed)
            self.assertEqual(copied(handed), list(args))

    def test_a_second_call_answers_the_same(self):
        for call, args in self.samples:
            handed = copied(args)
            first = call(*handed)
            kept = list(first)
            first.append(7)
            first[0] = 7
            self.assertEqual(call(*handed), kept)

    def test_other_calls_in_between_do_not_matter(self):
        once = [call(*copied(args)) for call, args in self.samples]
        backward = [call(*copied(args)) for call, args in reversed(self.samples)]
        self.assertEqual(once, list(reversed(backward)))

    def test_nothing_is_printed_read_or_imported(self):
        for call, args in self.samples:
            out, err = io.StringIO(), io.StringIO()
            refuse = mock.Mock(side_effect=AssertionError("not asked for"))
            with mock.patch.object(sys, "stdout", out), mock.patch.object(sys, "stderr", err), \
                    mock.patch.object(builtins, "open", refuse), \
                    mock.patch.object(builtins, "input", refuse), \
                    mock.patch.object(builtins, "__import__", refuse):
                call(*copied(args))
            self.assertEqual(out.getvalue() + err.getvalue(), "")

    def test_few_calls_within_one_another(self):
        for call, args in self.samples:
            plain = call(*copied(args))
            self.assertEqual(answer_with_few_frames(call, copied(args)), plain)

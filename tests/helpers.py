"""What the tests of several calls share."""

import copy
import inspect
import sys
import time
import unittest

# The widest, the highest and the square chart of the most knots.
GREATEST = ((512, 128), (128, 512), (256, 256))
# Rules of the most moves that can act on all of these.
SIXTEEN_MOVES = ("".join(f"{2 * number % 8} {number * 37 % 512} {number * 101 % 512}/" for number in range(16)),
                 "0 64 0/0 0 64/4 1 1/6 1 1/" * 4)
SOON = 20
FEW_CALLS = 40


def text(written):
    """The bytes of a text written with / for byte 10."""
    return [ord(sign) for sign in written.replace("/", "\n")]


def written(answer):
    """The text of an answer that holds one, written with / for byte 10; its first number says how long it is."""
    if answer[0] != len(answer) - 1:
        raise AssertionError(answer[:20])
    return bytes(answer[1:]).decode("ascii").replace("\n", "/")


def refuse_change(*args, **kwargs):
    raise AssertionError("what was handed in was changed")


class Untouchable(list):
    """A list that fails the test as soon as anyone changes it, even for a while."""

    append = extend = insert = remove = pop = clear = sort = reverse = refuse_change
    __setitem__ = __delitem__ = __iadd__ = __imul__ = refuse_change


def untouchable(value):
    return Untouchable(value) if isinstance(value, list) else value


class CallTest(unittest.TestCase):
    def setUp(self):
        self.addTypeEqualityFunc(list, self.same_lists)

    def same_lists(self, answer, expected, msg=None):
        """Says only where two lists part: unittest's own comparing of two long ones would take minutes."""
        if answer != expected:
            pairs = enumerate(zip(answer, expected))
            place = next((number for number, (one, other) in pairs if one != other), min(len(answer), len(expected)))
            self.fail(f"from number {place} on: {answer[place:][:20]} for {expected[place:][:20]}, {msg}")

    def check(self, call, handed, expected):
        """The answer to plain arguments and to untouchable ones, twice each, so that nothing can be kept."""
        for given in (copy.deepcopy(handed), tuple(untouchable(value) for value in handed)):
            for turn in ("first", "again"):
                answer = call(*given)
                self.assertEqual(answer, expected, (turn, shown(handed)))
                self.assertIs(type(answer), list)
                self.assertEqual([type(number) for number in answer], [int] * len(expected))
                self.assertTrue(given == handed, shown(handed))

    def ends_soon(self, call, *handed):
        """The answer, if it comes within some seconds and by few calls within one another."""
        allowed = sys.getrecursionlimit()
        begun = time.process_time()
        sys.setrecursionlimit(len(inspect.stack(0)) + FEW_CALLS)
        try:
            answer = call(*[untouchable(value) for value in handed])
        finally:
            sys.setrecursionlimit(allowed)
        self.assertLess(time.process_time() - begun, SOON)
        self.assertEqual([type(number) for number in answer], [int] * len(answer))
        return answer


def shown(handed):
    return [bytes(value[:60]) if isinstance(value, list) else value for value in handed]


def texts_over(signs, longest):
    """Every text of these signs up to this length."""
    level = [""]
    for length in range(longest + 1):
        yield from level
        level = [begun + sign for begun in level for sign in signs]


def place_by_words(written, is_text, completions):
    """The place of a fault straight from the document: the longest beginning that some whole text begins with.

    completions(begun) has to hold an ending for every beginning that has one.
    """
    for length in range(len(written), -1, -1):
        begun = written[:length]
        if any(is_text(begun + ending) for ending in completions(begun)):
            return length
    raise AssertionError("not even the empty text begins a text")

"""What the tests of several calls share."""

import unittest


def text(written):
    """The bytes of a text written with / for byte 10."""
    return [ord(sign) for sign in written.replace("/", "\n")]


def refuse_change(*args, **kwargs):
    raise AssertionError("what was handed in was changed")


class Untouchable(list):
    """A list that fails the test as soon as anyone changes it, even for a while."""

    append = extend = insert = remove = pop = clear = sort = reverse = refuse_change
    __setitem__ = __delitem__ = __iadd__ = __imul__ = refuse_change


class CallTest(unittest.TestCase):
    def check(self, call, handed, expected):
        """The answer to a plain list and to an untouchable one, twice each, so that nothing can be kept."""
        for given in (list(handed), Untouchable(handed)):
            for time in ("first", "again"):
                answer = call(given)
                self.assertEqual(answer, expected, (time, bytes(handed[:60])))
                self.assertIs(type(answer), list)
                self.assertEqual([type(number) for number in answer], [int] * len(expected))
                self.assertEqual(list(given), list(handed))


def texts_over(signs, longest):
    """Every text of these signs up to this length."""
    level = [""]
    for length in range(longest + 1):
        yield from level
        level = [begun + sign for begun in level for sign in signs]


def place_by_words(written, is_text, completions):
    """The place of a fault straight from the document: the longest beginning that some whole text begins with.

    completions(begun) has to hold an ending for every beginning that has one.
    """
    for length in range(len(written), -1, -1):
        begun = written[:length]
        if any(is_text(begun + ending) for ending in completions(begun)):
            return length
    raise AssertionError("not even the empty text begins a text")

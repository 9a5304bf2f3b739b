"""How the calls behave: nothing handed in is changed, nothing is kept, nothing is printed."""

import contextlib
import inspect
import io
import sys
import unittest

from rooftold import desk
from tests.houses import HOUSES, every_call, house_bytes, stairs, text_of

TEXTS = [house_bytes(name) for name in HOUSES] + [text_of(stairs()), [], [10], list(b"0,0 1,0 1,1 0,1"), [48] * 4096]


class Untouchable(list):
    """A list that can be read alone."""

    def refuse(self, *given, **named):
        raise AssertionError("what is handed in was changed")

    append = extend = insert = pop = remove = clear = sort = reverse = refuse
    __setitem__ = __delitem__ = __iadd__ = __imul__ = refuse


ARGUMENTS = {"faces": "t", "face": "i j s t", "lines": "t", "drop": "i j s t", "walls": "t", "tiles": "k W H t",
             "courses": "k W H t", "roof": "W H t", "size": "t sizes", "change": "t u", "lot": "i j s t u",
             "keeps": "t u", "free": "k t"}
SIZES = [2, 1, 64, 64, 4, 3, 2, 1]


def calls(text):
    """Every call, and some that come to each of the refusals."""
    return every_call(desk, text) + [
        desk.face(0, 0, 4, text), desk.face(127, 127, 3, text), desk.drop(128, 0, 0, text),
        desk.drop(127, 127, 3, text), desk.tiles(3, 64, 64, text), desk.tiles(0, 3, 1, text),
        desk.tiles(4294967295, 2, 1, text), desk.courses(3, 4, 3, text), desk.courses(0, 3, 1, text),
        desk.courses(4294967295, 2, 1, text), desk.roof(64, 64, text), desk.roof(0, 0, text), desk.size(text, SIZES),
        desk.size(text, []), desk.size(text, SIZES + [3, 1]), desk.lot(0, 0, 4, text, text),
        desk.lot(127, 127, 3, text, text), desk.free(3, text), desk.free(4294967295, text)]


class Manners(unittest.TestCase):
    def test_nothing_handed_in_is_changed(self):
        for text in TEXTS:
            handed = Untouchable(text)
            told = calls(list(text))
            self.assertEqual(calls(handed), told)
            self.assertEqual(list(handed), text)

    def test_two_texts_handed_in_are_not_changed(self):
        for t, u in zip(TEXTS, TEXTS[1:] + TEXTS[:1]):
            first, second = Untouchable(t), Untouchable(u)
            for one, other in ((first, second), (second, first), (first, first)):
                told = [desk.change(list(one), list(other)), desk.keeps(list(one), list(other)),
                        desk.lot(0, 0, 0, list(one), list(other))]
                got = [desk.change(one, other), desk.keeps(one, other), desk.lot(0, 0, 0, one, other)]
                self.assertEqual(got, told)
            self.assertEqual((list(first), list(second)), (t, u))

    def test_sizes_handed_in_are_not_changed(self):
        for text in TEXTS:
            for sizes in (SIZES, [], [2, 1], [2, 1, 3, 1], [2, 1] * 64):
                handed = Untouchable(sizes)
                self.assertEqual(desk.size(text, handed), desk.size(text, list(sizes)))
                self.assertEqual(list(handed), sizes)

    def test_the_same_call_gives_the_same_answer(self):
        first = [calls(text) for text in TEXTS]
        backward = [calls(text) for text in reversed(TEXTS)]
        self.assertEqual(first, backward[::-1])

    def test_an_answer_that_is_changed_changes_no_later_one(self):
        for text in TEXTS:
            before = calls(text)
            for answer in calls(text):
                answer.clear()
            self.assertEqual(calls(text), before)

    def test_answers_are_lists_of_whole_numbers(self):
        for text in TEXTS:
            for answer in calls(text):
                self.assertIs(type(answer), list)
                self.assertGreater(len(answer), 0)
                self.assertTrue(all(type(number) is int for number in answer))
                self.assertTrue(answer[0] >= 0 or len(answer) == 1)

    def test_nothing_is_printed(self):
        out, err = io.StringIO(), io.StringIO()
        with contextlib.redirect_stdout(out), contextlib.redirect_stderr(err):
            for text in TEXTS:
                calls(text)
        self.assertEqual((out.getvalue(), err.getvalue()), ("", ""))

    def test_names_and_order_of_the_arguments(self):
        for name, arguments in ARGUMENTS.items():
            self.assertEqual(list(inspect.signature(getattr(desk, name)).parameters), arguments.split(), name)

    def test_calls_are_not_nested_deep(self):
        # With room for few calls within one another the longest texts still get their answers.
        limit = sys.getrecursionlimit()
        depth = len(inspect.stack(0))
        told = [calls(text) for text in TEXTS]
        try:
            sys.setrecursionlimit(depth + 40)
            got = [calls(text) for text in TEXTS]
        finally:
            sys.setrecursionlimit(limit)
        self.assertEqual(got, told)


if __name__ == "__main__":
    unittest.main()

"""answers: how calls and answers lie in a list, and that nothing is kept or changed."""

import contextlib
import io
import sys
import unittest

from tests.helper import (
    CLEAR, FACTS, FIRST, JUDGE, NOW, PREVIEW, PRINT, blame, fact, names, pact, power, province, read, run, verdict,
)
from treatytable import desk

TEXT = "France will own Paris if kept 2\nAustria will hold Vienna in 1 to 2 if kept 1 and Britain does not enter Paris"


def flat(calls):
    return [number for call in calls for number in call]


def some_calls():
    refused = [power(""), province([256]), read([-1]), fact(9, 0, 0), read("x"), power("France"), verdict(0), verdict(9), blame(9), pact(0)]
    once = names() + [read(TEXT), fact(2, 0, 0), fact(0, 2, 1, 1), PREVIEW, PRINT, FACTS, JUDGE, NOW, JUDGE, verdict(1), FIRST, blame(0),
                      pact(2), NOW]
    return flat(once + refused + [CLEAR] + once)


class Watched(list):
    """A list that can't be changed."""

    def fail(self, *arguments):
        raise AssertionError("what is handed in is changed")

    __setitem__ = __delitem__ = __iadd__ = __imul__ = fail
    append = extend = insert = pop = remove = clear = reverse = sort = fail


class Answers(unittest.TestCase):
    def test_how_answers_lie(self):
        calls = [0, 1, 2, 65, 98, 1, 0, 2, 2, 67, 100, 5, 0, 0, 0, 0, 3, 18] + list(b"Ab will not own Cd") + [6, 4, 3, 1, 120]
        self.assertEqual(desk.answers(calls), [1, 0, 1, 0, 1, -3, 1, 0, 1, 1, 2, 0, 1, 2, 1, 1, 20, 19]
                         + list(b"Ab will not own Cd\n") + [4, 1, 1, 1, 1])

    def test_how_answers_of_later_calls_lie(self):
        calls = [1, 2, 65, 98, 2, 2, 67, 100, 3, 14] + list(b"Ab will own Cd") + [12, 5, 0, 0, 0, 0, 12, 7, 8, 1, 8, 2, 8, 0, 9, 10, 0,
                                                                                10, 1, 11, 1, 11, 2, 13]
        self.assertEqual(desk.answers(calls), [
            1, 0, 1, 0, 2, 0, 1, 1, 0, 1, 1, 5, 1, 0, 0, 0, 0, 3, 1, 1, 2, 2, 1, 2, 1, -6, 1, -1, 3, 1, 1, 1, 2, 1, 1,
            1, -1, 8, 0, 0, 4, 0, 0, 1, 100, 0, 1, -1, 3, 2, 1, 0])

    def test_each_call_alone_on_a_new_table(self):
        for call, given in ((CLEAR, [1, 0]), (power("Ab"), [1, 0]), (province("Ab"), [1, 0]), (read(""), [2, 0, 0]),
                            (PRINT, [1, 0]), (fact(0, 0, 0), [1, -1]), (PREVIEW, [1, 0]), (JUDGE, [2, 1, 0]), (verdict(1), [1, -6]),
                            (FIRST, [2, 0, 0]), (blame(0), [1, -1]), (pact(1), [1, -1]), (FACTS, [1, 0]), (NOW, [3, 1, 0, 0])):
            self.assertEqual(desk.answers(call), given)

    def test_numbers_that_look_like_calls(self):
        row = [0, 1, 2, 3, 4, 5, 6, 7, 8, 9, 10, 11, 12, 13] * 2
        self.assertEqual(desk.answers(power(row) + province(row) + read([9, 3, 3, 3]) + fact(6, 6, 6, 6) + PREVIEW),
                         [1, -3, 1, -3, 4, 1, 1, 1, 1, 1, -1, 1, 0])
        self.assertEqual(desk.answers(verdict(8) + blame(10) + pact(11) + fact(7, 7, 7, 7) + JUDGE), [1, -6, 1, -1, 1, -1, 1, -1, 2, 1, 0])

    def test_what_is_handed_in_stays(self):
        calls = some_calls()
        copy = list(calls)
        desk.answers(calls)
        self.assertEqual(calls, copy)

    def test_what_is_handed_in_is_not_changed_for_a_while_either(self):
        self.assertEqual(desk.answers(Watched(some_calls())), desk.answers(some_calls()))

    def test_twice_alike(self):
        first = desk.answers(some_calls())
        second = desk.answers(some_calls())
        self.assertEqual(first, second)
        self.assertIsNot(first, second)
        first.append(7)
        self.assertEqual(desk.answers(some_calls()), second)

    def test_nothing_of_one_table_is_on_the_next(self):
        desk.answers(some_calls())
        self.assertEqual(run([PRINT, PREVIEW, fact(0, 0, 0), power("France")]), [[0], [0], [-1], [0]])
        desk.answers(some_calls())
        self.assertEqual(run([NOW, FACTS, verdict(1), FIRST, blame(0), pact(1), JUDGE]), [[1, 0, 0], [0], [-6], [0, 0], [-1], [-1], [1, 0]])

    def test_a_list_of_whole_numbers(self):
        given = desk.answers(some_calls())
        self.assertIs(type(given), list)
        self.assertEqual({type(number) for number in given}, {int})

    def test_as_many_calls_as_there_may_be(self):
        self.assertEqual(desk.answers(PREVIEW * 400), [1, 0] * 400)
        ring = "\n".join(["France will own Paris if kept " + str(n % 24 + 1) for n in range(24)])
        given = run(names() + [read(ring)] + [PREVIEW] * 300 + [PRINT] * 60)
        self.assertEqual(len(given), len(names()) + 361)

    def test_long_texts_with_few_calls_within_one_another(self):
        limit = sys.getrecursionlimit()
        calls = flat(names() + [read("x\n" * 1000), read("\n" * 2000), read(" " * 2000)])
        try:
            sys.setrecursionlimit(150)
            given = desk.answers(calls)
        finally:
            sys.setrecursionlimit(limit)
        self.assertEqual(given[-6:], [2, 0, 0, 2, 0, 0])

    def test_prints_and_imports_nothing(self):
        told, modules = io.StringIO(), set(sys.modules)
        with contextlib.redirect_stdout(told), contextlib.redirect_stderr(told):
            desk.answers(some_calls())
        self.assertEqual((told.getvalue(), set(sys.modules)), ("", modules))


if __name__ == "__main__":
    unittest.main()

import ast
import contextlib
import inspect
import io
import pathlib
import unittest

import rolecasting
from calling import ahead, apart, begins, best, check, flat, order, piece, player, scene, told
from rolecasting.plays import answers

TELLING = [begins([5, 6]), scene(10, [0, 1]), player([1, 0]), player([0, 1]), piece(30, [1]), piece(40, []),
           ahead(0, 1)]
ASKING = [best(), apart(), check([0, 1], [0, 1]), check([0, 0], [0, 1]), check([0, 1], [1, 0]), order([0, 0])]
REFUSED = [begins([]), scene(1, [9]), player([9] * 20), piece(0, [1, 0]), ahead(3, 3), check([0], [0]), order([9])]
ALL_NINE = flat(TELLING + ASKING)


class Form(unittest.TestCase):

    def test_its_argument(self):
        self.assertEqual(list(inspect.signature(answers).parameters), ["calls"])

    def test_how_many_numbers_and_these_for_each_call(self):
        self.assertEqual(answers([0, 2, 5, 6]), [1, 2])
        self.assertEqual(answers([0, 2, 5, 6, 1, 10, 2, 0, 1, 2, 50, 2, 0, 600, 2, 1, 0,
                                  3, 30, 1, 1, 3, 40, 0, 4, 0, 1]),
                         [1, 2, 1, 0, 1, 0, 1, 0, 1, 1, 1, 1])

    def test_each_list_stands_behind_how_many_numbers_it_has(self):
        self.assertEqual(answers(ALL_NINE)[2 * len(TELLING):],
                         [10, 160, 2, 1, 100, 2, 0, 1, 2, 0, 1,
                          7, 160, 2, 0, 1, 2, 0, 1,
                          9, 1, 2, 100, 60, 0, 3, 0, 30, 0,
                          6, 0, 4, 1, 1, 1, 0,
                          5, 0, 3, 2, 1, 0,
                          6, 60, 1, 1, 2, 0, 1])

    def test_a_refusal_is_its_number_alone(self):
        self.assertEqual(answers([0, 0]), [1, -1])
        self.assertEqual(answers([4, 0, 0, 0, 1, 0, 4, 0, 0]), [1, -2, 1, 1, 1, -2])
        self.assertEqual(answers([0, 1, 0, 5, 6, 7, 1, 0, 0, 8, 1, 0]), [1, 1, 1, -6, 1, -6, 1, -1, 1, -1])

    def test_gives_whole_numbers_in_a_list(self):
        given = answers(ALL_NINE)
        self.assertIs(type(given), list)
        self.assertEqual({type(number) for number in given}, {int})

    def test_lists_of_twenty_are_read_to_their_end(self):
        twenty = list(range(20))
        calls = flat([begins(twenty), scene(1, twenty), player(twenty), piece(1, twenty), check(twenty, twenty),
                      order(twenty), begins([0]), scene(1, [0])])
        self.assertEqual(answers(calls), [1, -1] * 6 + [1, 1, 1, 0])

    def test_forty_calls(self):
        calls = flat([begins([0])] * 38 + [scene(1, [0])] * 2)
        self.assertEqual(answers(calls), [1, 1] * 38 + [1, 0, 1, 1])


class Unchanging(list):
    """A list that fails where it is changed, even if it is changed back later."""

    def fail(self, *args, **kwargs):
        raise AssertionError("what was handed in is changed")

    append = clear = extend = insert = pop = remove = reverse = sort = fail
    __delitem__ = __iadd__ = __imul__ = __setitem__ = fail


class AsItWas(unittest.TestCase):

    def test_behind_each_call_that_asks(self):
        for asking in ASKING + [check([], []), order([])]:
            telling = [scene(1, [0]), player([1, 1]), piece(1, [0]), ahead(0, 1), ahead(1, 0)]
            given = told(*TELLING, asking, *telling)
            self.assertEqual(given[-5:], [[1], [2], [2], [-3], [2]])

    def test_each_tells_the_same_again(self):
        given = told(*TELLING, *ASKING, *ASKING, *reversed(ASKING))[len(TELLING):]
        self.assertEqual(given[6:12], given[:6])
        self.assertEqual(given[12:], given[5::-1])

    def test_behind_refusals(self):
        given = told(*TELLING, *ASKING, *REFUSED, *ASKING)
        self.assertEqual(given[13:20], [[-1], [-1], [-1], [-1], [-2], [-1], [-1]])
        self.assertEqual(given[20:], given[7:13])

    def test_what_is_told_between_counts(self):
        given = told(*TELLING, best(), player([1, 1], wage=1, rate=0), best(), apart(), piece(10, [0]), best(),
                     order([0, 1]), ahead(2, 0), order([0, 1]))
        self.assertEqual(given[7:], [[160, [1, 100], [0, 1], [0, 1]], [2], [51, [1, 51], [0, 2], [0, 1]],
                                     [51, [0, 2], [0, 1]], [2], [71, [3, 51], [0, 2], [0, 1, 2]],
                                     [80, [3], [0, 1, 2]], [2], [80, [1], [2, 0, 1]]])


class NothingElse(unittest.TestCase):

    def test_what_is_handed_in_stays_as_it_was(self):
        refused = flat(REFUSED)
        for calls in (ALL_NINE, refused, ALL_NINE + refused):
            handed = list(calls)
            answers(handed)
            self.assertEqual(handed, calls)

    def test_what_is_handed_in_is_not_changed_for_a_while_either(self):
        for calls in (ALL_NINE, flat(REFUSED), ALL_NINE + flat(REFUSED)):
            self.assertEqual(answers(Unchanging(calls)), answers(calls))

    def test_nothing_is_kept_from_one_time_to_the_next(self):
        first = answers(list(ALL_NINE))
        self.assertEqual(answers(list(ALL_NINE)), first)
        self.assertEqual(answers(scene(1, [0])), [1, -1])
        self.assertEqual(answers(ahead(0, 1)), [1, -2])
        self.assertEqual(answers(scene(1, [])), [1, 0])
        self.assertEqual(answers(best()), [6, 0, 2, 1, 0, 0, 0])
        self.assertEqual(answers(order([0, 0])), [1, -1])

    def test_what_was_given_can_be_changed_without_harm(self):
        first = answers(list(ALL_NINE))
        kept = list(first)
        first.clear()
        self.assertEqual(answers(list(ALL_NINE)), kept)

    def test_prints_nothing(self):
        printed = io.StringIO()
        with contextlib.redirect_stdout(printed), contextlib.redirect_stderr(printed):
            answers(list(ALL_NINE))
        self.assertEqual(printed.getvalue(), "")

    def test_imports_nothing_from_outside(self):
        for path in pathlib.Path(rolecasting.__file__).parent.glob("*.py"):
            for node in ast.walk(ast.parse(path.read_text())):
                self.assertNotIsInstance(node, ast.Import)
                if isinstance(node, ast.ImportFrom):
                    self.assertEqual(node.module.split(".")[0], "rolecasting")


if __name__ == "__main__":
    unittest.main()

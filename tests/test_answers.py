import ast
import contextlib
import inspect
import io
import pathlib
import unittest

import rolecasting
from calling import ahead, begins, flat, piece, player, scene
from rolecasting.plays import answers

ALL_FIVE = flat([begins([5, 6]), scene(10, [0, 1]), player([1, 0]), piece(30, [1]), piece(40, []), ahead(0, 1)])


class Form(unittest.TestCase):

    def test_its_argument(self):
        self.assertEqual(list(inspect.signature(answers).parameters), ["calls"])

    def test_how_many_numbers_and_these_for_each_call(self):
        self.assertEqual(answers([0, 2, 5, 6]), [1, 2])
        self.assertEqual(answers([0, 2, 5, 6, 1, 10, 2, 0, 1, 2, 50, 2, 0, 600, 2, 1, 0,
                                  3, 30, 1, 1, 3, 40, 0, 4, 0, 1]),
                         [1, 2, 1, 0, 1, 0, 1, 0, 1, 1, 1, 1])

    def test_a_refusal_is_its_number_alone(self):
        self.assertEqual(answers([0, 0]), [1, -1])
        self.assertEqual(answers([4, 0, 0, 0, 1, 0, 4, 0, 0]), [1, -2, 1, 1, 1, -2])

    def test_gives_whole_numbers_in_a_list(self):
        given = answers(ALL_FIVE)
        self.assertIs(type(given), list)
        self.assertEqual({type(number) for number in given}, {int})

    def test_lists_of_twenty_are_read_to_their_end(self):
        twenty = list(range(20))
        calls = flat([begins(twenty), scene(1, twenty), player(twenty), piece(1, twenty), begins([0]), scene(1, [0])])
        self.assertEqual(answers(calls), [1, -1, 1, -1, 1, -1, 1, -1, 1, 1, 1, 0])

    def test_forty_calls(self):
        calls = flat([begins([0])] * 38 + [scene(1, [0])] * 2)
        self.assertEqual(answers(calls), [1, 1] * 38 + [1, 0, 1, 1])


class NothingElse(unittest.TestCase):

    def test_what_is_handed_in_stays_as_it_was(self):
        refused = flat([begins([]), scene(1, [9]), player([9] * 20), piece(0, [1, 0]), ahead(3, 3)])
        for calls in (ALL_FIVE, refused, ALL_FIVE + refused):
            handed = list(calls)
            answers(handed)
            self.assertEqual(handed, calls)

    def test_nothing_is_kept_from_one_time_to_the_next(self):
        first = answers(list(ALL_FIVE))
        self.assertEqual(answers(list(ALL_FIVE)), first)
        self.assertEqual(answers(scene(1, [0])), [1, -1])
        self.assertEqual(answers(ahead(0, 1)), [1, -2])
        self.assertEqual(answers(scene(1, [])), [1, 0])

    def test_what_was_given_can_be_changed_without_harm(self):
        first = answers(list(ALL_FIVE))
        kept = list(first)
        first.clear()
        self.assertEqual(answers(list(ALL_FIVE)), kept)

    def test_prints_nothing(self):
        printed = io.StringIO()
        with contextlib.redirect_stdout(printed), contextlib.redirect_stderr(printed):
            answers(list(ALL_FIVE))
        self.assertEqual(printed.getvalue(), "")

    def test_imports_nothing_from_outside(self):
        for path in pathlib.Path(rolecasting.__file__).parent.glob("*.py"):
            for node in ast.walk(ast.parse(path.read_text())):
                self.assertNotIsInstance(node, ast.Import)
                if isinstance(node, ast.ImportFrom):
                    self.assertEqual(node.module.split(".")[0], "rolecasting")


if __name__ == "__main__":
    unittest.main()

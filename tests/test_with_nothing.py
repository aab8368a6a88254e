"""Plans where there are no roles, no players or no pieces."""

import unittest

from calling import BIGGEST, ahead, apart, begins, best, check, order, piece, player, scene, told
from rolecasting.plays import answers


class AheadOfTheFirstBegins(unittest.TestCase):

    def test_the_empty_plan(self):
        self.assertEqual(answers([5]), [6, 0, 2, 1, 0, 0, 0])
        self.assertEqual(answers([6]), [3, 0, 0, 0])
        self.assertEqual(answers([7, 0, 0]), [4, 1, 2, 0, 0])
        self.assertEqual(answers([8, 0]), [4, 0, 1, 1, 0])

    def test_what_is_no_plan(self):
        self.assertEqual(told(check([0], []), check([], [0]), check([BIGGEST] * 20, [BIGGEST] * 20), order([0]),
                              order([0] * 20)), [[-1]] * 5)

    def test_pieces_without_roles(self):
        given = told(piece(5, []), piece(6, []), piece(7, []), ahead(2, 0), best(), apart(), check([], [0, 1, 2]),
                     check([], [1, 2, 0]), check([], []), order([]))
        self.assertEqual(given[4:], [[0, [3, 0], [], [1, 2, 0]], [0, [], [1, 2, 0]], [0, [2, 1, 0]], [1, [0, 0]],
                                     [-1], [0, [3], [1, 2, 0]]])

    def test_players_without_roles(self):
        given = told(player([], since=7, till=7), player([]), piece(5, []), scene(5, []), best(), apart(),
                     check([], [0]), order([]))
        self.assertEqual(given[4:], [[0, [1, 0], [], [0]], [0, [], [0]], [1, [0, 0], [], []], [0, [1], [0]]])

    def test_pairs_that_no_order_keeps(self):
        given = told(piece(5, []), piece(5, []), ahead(0, 1), ahead(1, 0), best(), apart(), order([]),
                     check([], [0, 1]), check([], [1, 0]))
        self.assertEqual(given[4:], [[-6], [-3], [-6], [0, [2, 1, 1]], [0, [2, 1, 0]]])

    def test_behind_a_refused_begins(self):
        self.assertEqual(told(begins([]), best(), order([])), [[-1], [0, [1, 0], [], []], [0, [1], []]])


class Without(unittest.TestCase):

    def test_roles_without_players(self):
        given = told(begins([0, 0]), best(), apart(), check([0, 0], []), check([], []), order([0, 0]), order([]))
        self.assertEqual(given, [[2], [-6], [-6], [-1], [-1], [-1], [-1]])

    def test_roles_and_pieces_without_players(self):
        given = told(begins([0]), piece(5, [0]), piece(5, []), ahead(0, 1), ahead(1, 0), best(), apart(),
                     check([0], [0, 1]), order([0]))
        self.assertEqual(given[5:], [[-6], [-6], [-1], [-1]])

    def test_players_without_pieces(self):
        given = told(begins([0]), player([4], wage=10, since=5, till=5), player([1], wage=13), best(), apart(),
                     check([1], []), order([0]))
        self.assertEqual(given[3:], [[13, [2, 13], [0], []], [13, [0], []], [1, [13, 0], [], []], [0, [1], []]])

    def test_pieces_of_no_role(self):
        given = told(begins([0]), player([4], wage=10, since=5, till=5), piece(5, []), piece(6, []), best(), apart(),
                     check([0], [1, 0]), order([0]))
        self.assertEqual(given[4:], [[13, [2, 13], [0], [0, 1]], [13, [0], [0, 1]], [1, [13, 0], []],
                                     [0, [2], [0, 1]]])

    def test_begins_forgets_what_was_told(self):
        given = told(begins([0, 0]), scene(1, [0, 1]), player([1, 1]), piece(5, [0]), piece(5, [1]), ahead(1, 0),
                     begins([0, 0]), best(), check([0, 0], [1, 0]), player([1, 1]), best(), piece(5, [0]),
                     piece(5, [1]), order([0, 0]))
        self.assertEqual(given[7:], [[-6], [-1], [0], [50, [1, 50], [0, 0], []], [0], [1], [20, [2], [0, 1]]])


if __name__ == "__main__":
    unittest.main()

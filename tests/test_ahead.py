import unittest

from calling import BIGGEST, ahead, asked, begins, last, piece, scene

ONE = [begins([0]), piece(1, [0])]
FOUR = [begins([0])] + [piece(1, [0])] * 4


class Answer(unittest.TestCase):

    def test_tells_how_many_pairs(self):
        self.assertEqual(asked(*FOUR, ahead(0, 1), ahead(3, 2), ahead(0, 3))[-3:], [1, 2, 3])

    def test_a_pair_both_ways(self):
        self.assertEqual(asked(*FOUR, ahead(0, 1), ahead(1, 0))[-2:], [1, 2])

    def test_each_pair_that_there_is(self):
        pairs = [(i, j) for i in range(4) for j in range(4) if i != j]
        given = asked(*FOUR, *[ahead(i, j) for i, j in pairs], *[ahead(i, j) for i, j in pairs])
        self.assertEqual(given[5:], list(range(1, 13)) + [-3] * 12)

    def test_pairs_and_pieces_may_be_told_in_turns(self):
        given = asked(begins([0]), piece(1, []), ahead(0, 1), piece(1, []), ahead(0, 1), ahead(2, 0),
                      piece(1, []), ahead(2, 0), scene(1, [0]), ahead(0, 1))
        self.assertEqual(given, [1, 0, -2, 1, 1, -2, 2, 2, 0, -3])


class Refusal(unittest.TestCase):

    def test_no_such_piece(self):
        for i, j in ((0, 4), (4, 0), (3, BIGGEST), (BIGGEST, 3), (4, 5)):
            self.assertEqual(last(*FOUR, ahead(i, j)), -2)

    def test_no_such_piece_where_there_are_fewer(self):
        self.assertEqual(asked(*ONE, ahead(0, 1), ahead(1, 0))[-2:], [-2, -2])

    def test_i_is_j(self):
        for i in range(4):
            self.assertEqual(last(*FOUR, ahead(i, i)), -3)

    def test_told_already(self):
        self.assertEqual(asked(*FOUR, ahead(0, 1), ahead(2, 3), ahead(0, 1), ahead(2, 3))[-2:], [-3, -3])

    def test_minus_2_is_told_ahead_of_minus_3(self):
        for i in (4, BIGGEST):
            self.assertEqual(last(*FOUR, ahead(i, i)), -2)

    def test_a_refused_piece_is_not_there(self):
        self.assertEqual(last(*ONE, piece(0, []), ahead(0, 1)), -2)
        self.assertEqual(last(*FOUR, piece(1, []), ahead(0, 4)), -2)

    def test_leaves_the_play_as_it_was(self):
        given = asked(*FOUR, ahead(0, 4), ahead(1, 1), ahead(0, 1), ahead(0, 1), ahead(4, 4), ahead(1, 0))
        self.assertEqual(given[5:], [-2, -3, 1, -3, -2, 2])


if __name__ == "__main__":
    unittest.main()

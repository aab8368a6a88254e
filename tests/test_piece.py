import unittest

from calling import BIGGEST, asked, begins, last, piece

FIVE = begins([10, 0, 20, 0, 30])


class Answer(unittest.TestCase):

    def test_tells_its_number(self):
        self.assertEqual(asked(FIVE, piece(10, [0, 2]), piece(20, [1]), piece(10, [0, 2])), [5, 0, 1, 2])

    def test_minutes_at_their_bounds(self):
        self.assertEqual(asked(FIVE, piece(1, [0]), piece(600, [0])), [5, 0, 1])

    def test_any_rising_roles(self):
        for roles in ([], [0], [4], [0, 4], [1, 2, 3], [0, 1, 2, 3, 4]):
            self.assertEqual(last(FIVE, piece(1, roles)), 0)

    def test_four_pieces(self):
        self.assertEqual(asked(FIVE, *[piece(1, [0])] * 4), [5, 0, 1, 2, 3])


class Refusal(unittest.TestCase):

    def test_no_minutes(self):
        self.assertEqual(last(FIVE, piece(0, [0])), -1)

    def test_too_many_minutes(self):
        for minutes in (601, BIGGEST):
            self.assertEqual(last(FIVE, piece(minutes, [0])), -1)

    def test_a_role_that_there_is_not(self):
        for roles in ([5], [0, 5], [BIGGEST], [0, 1, 2, 3, 4, 5], list(range(20))):
            self.assertEqual(last(FIVE, piece(1, roles)), -1)

    def test_roles_that_do_not_rise(self):
        for roles in ([1, 0], [0, 0], [0, 2, 1], [1, 2, 2], [4, 0], [0, 3, 1, 4], [0] * 20):
            self.assertEqual(last(FIVE, piece(1, roles)), -1)

    def test_one_more_than_four(self):
        self.assertEqual(asked(FIVE, *[piece(1, [0])] * 4, piece(1, [0]), piece(600, []))[-3:], [3, -5, -5])

    def test_minus_1_is_told_ahead_of_minus_5(self):
        for wrong in (piece(0, [0]), piece(601, [0]), piece(1, [5]), piece(1, [1, 0]), piece(1, [0, 0])):
            self.assertEqual(last(FIVE, *[piece(1, [0])] * 4, wrong), -1)

    def test_leaves_the_play_as_it_was(self):
        given = asked(FIVE, piece(0, []), piece(601, []), piece(1, [5]), piece(1, [1, 0]), piece(1, [0]),
                      piece(1, [0, 0]), piece(1, [0]))
        self.assertEqual(given, [5, -1, -1, -1, -1, 0, -1, 1])


if __name__ == "__main__":
    unittest.main()

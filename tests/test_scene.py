import unittest

from calling import BIGGEST, asked, begins, last, scene

FIVE = begins([10, 0, 20, 0, 30])


class Answer(unittest.TestCase):

    def test_tells_its_number(self):
        self.assertEqual(asked(FIVE, scene(10, [0, 2]), scene(20, [1]), scene(10, [0, 2])), [5, 0, 1, 2])

    def test_minutes_at_their_bounds(self):
        self.assertEqual(asked(FIVE, scene(0, [0]), scene(1000, [0])), [5, 0, 1])

    def test_any_rising_roles(self):
        for roles in ([], [0], [4], [0, 4], [1, 2, 3], [0, 1, 2, 3, 4]):
            self.assertEqual(last(FIVE, scene(1, roles)), 0)

    def test_ten_scenes(self):
        self.assertEqual(asked(FIVE, *[scene(1, [0])] * 10), [5] + list(range(10)))


class Refusal(unittest.TestCase):

    def test_too_many_minutes(self):
        for minutes in (1001, BIGGEST):
            self.assertEqual(last(FIVE, scene(minutes, [0])), -1)

    def test_a_role_that_there_is_not(self):
        for roles in ([5], [0, 5], [BIGGEST], [0, 1, 2, 3, 4, 5], list(range(20))):
            self.assertEqual(last(FIVE, scene(1, roles)), -1)

    def test_one_role_alone(self):
        self.assertEqual(asked(begins([0]), scene(1, [1]), scene(1, [0])), [1, -1, 0])

    def test_roles_that_do_not_rise(self):
        for roles in ([1, 0], [0, 0], [0, 2, 1], [1, 2, 2], [4, 0], [0, 3, 1, 4], [0] * 20):
            self.assertEqual(last(FIVE, scene(1, roles)), -1)

    def test_one_more_than_ten(self):
        given = asked(FIVE, *[scene(1, [0])] * 10, scene(1, [0]), scene(0, []), scene(1, [0]))
        self.assertEqual(given[-4:], [9, -5, -5, -5])

    def test_minus_1_is_told_ahead_of_minus_5(self):
        for wrong in (scene(1001, [0]), scene(1, [5]), scene(1, [1, 0]), scene(1, [0, 0])):
            self.assertEqual(last(FIVE, *[scene(1, [0])] * 10, wrong), -1)

    def test_leaves_the_play_as_it_was(self):
        given = asked(FIVE, scene(1001, []), scene(1, [5]), scene(1, [1, 0]), scene(1, [0]), scene(1, [0, 0]),
                      scene(1, [0]))
        self.assertEqual(given, [5, -1, -1, -1, 0, -1, 1])


if __name__ == "__main__":
    unittest.main()

import unittest

from calling import begins, check, last_told, order, player, scene

RIGHT = [1, [50, 0], []]
CLASH = [0, [1, 2, 0, 1]]


def both_by_one(dressing, *scenes):
    """What is told of a casting in which one player has both roles."""
    return last_told(begins(dressing), *scenes, player([1, 1]), check([0, 0], []))


class OneScene(unittest.TestCase):

    def test_both_in_one_scene(self):
        self.assertEqual(both_by_one([0, 0], scene(10, [0, 1])), CLASH)

    def test_both_in_one_scene_without_minutes(self):
        self.assertEqual(both_by_one([0, 0], scene(0, [0, 1])), CLASH)

    def test_both_in_one_of_many_scenes(self):
        self.assertEqual(both_by_one([0, 0], scene(10, [0]), scene(10, [1]), scene(10, []), scene(10, [0, 1])), CLASH)

    def test_no_scenes(self):
        self.assertEqual(both_by_one([1000, 1000]), RIGHT)

    def test_one_of_them_in_no_scene(self):
        self.assertEqual(both_by_one([1000, 1000], scene(1, [0]), scene(1, []), scene(1, [0])), RIGHT)
        self.assertEqual(both_by_one([1000, 1000], scene(1, [1]), scene(1, [1])), RIGHT)


class LaterScene(unittest.TestCase):

    def test_just_enough_minutes(self):
        self.assertEqual(both_by_one([0, 7], scene(5, [0]), scene(7, []), scene(5, [1])), RIGHT)
        self.assertEqual(both_by_one([7, 0], scene(5, [1]), scene(7, []), scene(5, [0])), RIGHT)

    def test_one_minute_too_few(self):
        self.assertEqual(both_by_one([0, 8], scene(5, [0]), scene(7, []), scene(5, [1])), CLASH)
        self.assertEqual(both_by_one([8, 0], scene(5, [1]), scene(7, []), scene(5, [0])), CLASH)

    def test_dressing_for_the_role_of_the_earlier_scene_does_not_count(self):
        self.assertEqual(both_by_one([1000, 7], scene(5, [0]), scene(7, []), scene(5, [1])), RIGHT)
        self.assertEqual(both_by_one([7, 1000], scene(5, [1]), scene(7, []), scene(5, [0])), RIGHT)

    def test_minutes_of_the_two_scenes_do_not_count(self):
        self.assertEqual(both_by_one([0, 1], scene(1000, [0]), scene(1000, [1])), CLASH)

    def test_scenes_that_follow_at_once(self):
        self.assertEqual(both_by_one([0, 0], scene(5, [0]), scene(5, [1])), RIGHT)
        self.assertEqual(both_by_one([0, 1], scene(5, [0]), scene(5, [1])), CLASH)
        self.assertEqual(both_by_one([1, 0], scene(5, [0]), scene(5, [1])), RIGHT)
        self.assertEqual(both_by_one([1, 0], scene(5, [1]), scene(5, [0])), CLASH)

    def test_a_scene_without_minutes_between(self):
        self.assertEqual(both_by_one([0, 1], scene(5, [0]), scene(0, []), scene(5, [1])), CLASH)
        self.assertEqual(both_by_one([0, 0], scene(5, [0]), scene(0, []), scene(5, [1])), RIGHT)

    def test_minutes_of_several_scenes_are_added(self):
        between = [scene(3, []), scene(0, []), scene(4, [])]
        self.assertEqual(both_by_one([0, 7], scene(5, [0]), *between, scene(5, [1])), RIGHT)
        self.assertEqual(both_by_one([0, 8], scene(5, [0]), *between, scene(5, [1])), CLASH)

    def test_the_most_minutes_to_dress(self):
        self.assertEqual(both_by_one([0, 1000], scene(0, [0]), scene(1000, []), scene(0, [1])), RIGHT)
        self.assertEqual(both_by_one([0, 1000], scene(0, [0]), scene(999, []), scene(0, [1])), CLASH)

    def test_scenes_ahead_of_both_and_behind_both_do_not_count(self):
        self.assertEqual(both_by_one([0, 8], scene(9, []), scene(5, [0]), scene(7, []), scene(5, [1]), scene(9, [])),
                         CLASH)

    def test_every_pair_of_scenes_counts(self):
        far = [scene(5, [0]), scene(8, []), scene(5, [1])]
        self.assertEqual(both_by_one([8, 8], *far), RIGHT)
        self.assertEqual(both_by_one([8, 8], *far, scene(7, []), scene(5, [0])), CLASH)
        self.assertEqual(both_by_one([8, 8], *far, scene(8, []), scene(5, [0])), RIGHT)
        self.assertEqual(both_by_one([8, 8], scene(5, [0]), *far), RIGHT)
        self.assertEqual(both_by_one([0, 8], scene(5, [0]), scene(8, [0]), scene(5, [1])), CLASH)
        self.assertEqual(both_by_one([0, 8], scene(5, [0]), scene(8, [1]), scene(5, [1])), CLASH)

    def test_a_scene_of_another_role_lies_between(self):
        def told_of(dressing):
            return last_told(begins(dressing), scene(5, [0]), scene(7, [2]), scene(5, [1]),
                             player([1, 1, 1]), player([1, 1, 1]), check([0, 0, 1], []))
        self.assertEqual(told_of([0, 7, 0]), [1, [100, 0], [], []])
        self.assertEqual(told_of([0, 8, 0]), [0, [1, 2, 0, 1]])


class TwoPlayers(unittest.TestCase):

    def test_roles_that_clash_may_have_two_players(self):
        play = [begins([0, 0]), scene(1, [0, 1]), player([1, 1]), player([1, 1])]
        self.assertEqual(last_told(*play, check([0, 1], [])), [1, [100, 0], [], []])
        self.assertEqual(last_told(*play, check([1, 1], [])), CLASH)

    def test_order_does_not_ask_for_clashes(self):
        self.assertEqual(last_told(begins([0, 0]), scene(1, [0, 1]), player([1, 1]), order([0, 0])), [0, [1], []])


if __name__ == "__main__":
    unittest.main()

import unittest

from calling import BIGGEST, ahead, begins, last_told, order, piece, player, scene, told

# The player of role 0 is in pieces 0 and 2; all players cost 2 a minute if nothing else is told.
TWICE = [begins([0, 0]), piece(10, [0]), piece(100, [1]), piece(20, [0])]
ANY = player([1, 1])


class Answer(unittest.TestCase):

    def test_the_cheapest_how_many_and_the_earliest(self):
        self.assertEqual(last_told(*TWICE, ANY, ANY, order([0, 1])), [260, [4], [0, 2, 1]])

    def test_the_wage_and_the_fees_do_not_count(self):
        dear = player([1000, 1000], wage=1000, rate=0)
        self.assertEqual(last_told(*TWICE, dear, order([0, 0])), [0, [6], [0, 1, 2]])

    def test_all_orders_cost_the_same(self):
        self.assertEqual(last_told(*TWICE, ANY, order([0, 0])), [260, [6], [0, 1, 2]])

    def test_pairs_are_kept_though_it_is_dearer(self):
        play = TWICE + [ANY, ANY, ahead(0, 1), ahead(1, 2)]
        self.assertEqual(last_told(*play, order([0, 1])), [460, [1], [0, 1, 2]])

    def test_players_come_and_go_when_they_can(self):
        play = TWICE + [ANY, player([1, 1], since=10, till=110)]
        self.assertEqual(last_told(*play, order([0, 1])), [460, [1], [0, 1, 2]])
        play = TWICE + [ANY, player([1, 1], since=10, till=120)]
        self.assertEqual(last_told(*play, order([0, 1])), [460, [2], [0, 1, 2]])
        play = TWICE + [ANY, player([1, 1], since=20, till=130)]
        self.assertEqual(last_told(*play, order([0, 1])), [260, [2], [0, 2, 1]])
        play = TWICE + [ANY, player([1, 1], since=0, till=100)]
        self.assertEqual(last_told(*play, order([0, 1])), [260, [2], [1, 0, 2]])

    def test_the_dearer_player_waits_less(self):
        play = [begins([0, 0, 0]), piece(10, [0, 1]), piece(20, [0]), piece(30, [1, 2]), piece(40, [2])]
        cast = [player([1, 1, 1], rate=1), player([1, 1, 1], rate=100), player([1, 1, 1], rate=1)]
        self.assertEqual(last_told(*play, *cast, order([0, 1, 2])), [30 + 4000 + 70, [2], [1, 0, 2, 3]])

    def test_an_order_that_costs_nothing(self):
        self.assertEqual(last_told(*TWICE, player([1, 1], rate=0), order([0, 0])), [0, [6], [0, 1, 2]])


class CastingNotRight(unittest.TestCase):

    def test_a_player_who_can_not_play_the_role(self):
        self.assertEqual(last_told(*TWICE, player([0, 0]), player([0, 0]), order([0, 1])), [260, [4], [0, 2, 1]])

    def test_roles_that_clash(self):
        play = TWICE + [scene(1, [0, 1]), ANY]
        self.assertEqual(last_told(*play, order([0, 0])), [260, [6], [0, 1, 2]])


class Refusal(unittest.TestCase):

    def test_not_a_player_for_each_role(self):
        for casting in ([], [0], [0, 1, 0], [0] * 20):
            self.assertEqual(last_told(*TWICE, ANY, ANY, order(casting)), [-1])

    def test_a_player_that_there_is_not(self):
        for casting in ([2, 0], [0, 2], [BIGGEST, 0]):
            self.assertEqual(last_told(*TWICE, ANY, ANY, order(casting)), [-1])

    def test_no_order_keeps_the_pairs(self):
        self.assertEqual(last_told(*TWICE, ANY, ahead(0, 1), ahead(1, 0), order([0, 0])), [-6])
        self.assertEqual(last_told(*TWICE, ANY, ahead(0, 1), ahead(1, 2), ahead(2, 0), order([0, 0])), [-6])

    def test_a_player_comes_too_soon_in_every_order(self):
        self.assertEqual(last_told(*TWICE, player([1, 1], since=1), order([0, 0])), [-6])

    def test_a_player_goes_too_late_in_every_order(self):
        self.assertEqual(last_told(*TWICE, player([1, 1], till=130), order([0, 0])), [260, [6], [0, 1, 2]])
        self.assertEqual(last_told(*TWICE, player([1, 1], till=129), order([0, 0])), [-6])

    def test_no_order_suits_two_players(self):
        first = player([1, 1], since=0, till=30)
        self.assertEqual(last_told(*TWICE, first, player([1, 1], since=30), order([0, 1])), [260, [2], [0, 2, 1]])
        self.assertEqual(last_told(*TWICE, first, player([1, 1], till=100), order([0, 1])), [-6])

    def test_minus_1_is_told_ahead_of_minus_6(self):
        play = TWICE + [ANY, ahead(0, 1), ahead(1, 0)]
        for casting in ([], [0], [0, 1], [0, 0, 0]):
            self.assertEqual(last_told(*play, order(casting)), [-1])

    def test_leaves_the_play_as_it_was(self):
        given = told(*TWICE, ANY, ANY, order([0, 1]), order([0]), order([0, 2]), order([0, 1]))
        self.assertEqual(given[-4:], [[260, [4], [0, 2, 1]], [-1], [-1], [260, [4], [0, 2, 1]]])


if __name__ == "__main__":
    unittest.main()

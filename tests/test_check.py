import unittest

from calling import BIGGEST, ahead, begins, check, last_told, piece, player, scene, told

# Piece 0 lasts from minute 0, 10 minutes; 1 takes 20, 2 takes 30.
THREE = [begins([0, 0, 0]), piece(10, [0]), piece(20, [1]), piece(30, [2])]
ANY = player([1, 1, 1])


def by_times(since, till):
    """What is told of a player who is there from minute 10 to minute 30, and can be there from since to till."""
    return last_told(*THREE, ANY, player([1, 1, 1], since=since, till=till), check([0, 1, 0], [0, 1, 2]))


class Right(unittest.TestCase):

    def test_what_both_cost_and_who_is_there(self):
        play = THREE + [player([4, 0, 6], wage=100, rate=2), player([0, 8, 0], wage=1000, rate=3)]
        self.assertEqual(last_told(*play, check([0, 1, 0], [0, 1, 2])),
                         [1, [1100 + 3 + 7 + 5, 60 * 2 + 20 * 3], [0, 60, 20], [10, 30, 0]])
        self.assertEqual(last_told(*play, check([0, 1, 0], [2, 0, 1])),
                         [1, [1115, 40 * 2 + 20 * 3], [0, 40, 0], [40, 60, 0]])

    def test_waiting_is_paid(self):
        play = [begins([0, 0]), piece(5, [0]), piece(100, [1]), player([1, 0], wage=0, rate=7),
                player([0, 1], wage=0, rate=0), piece(5, [0])]
        self.assertEqual(last_told(*play, check([0, 1], [0, 1, 2])), [1, [0, 770], [0, 110, 100], [5, 105, 0]])
        self.assertEqual(last_told(*play, check([0, 1], [0, 2, 1])), [1, [0, 70], [0, 10, 0], [10, 110, 0]])

    def test_a_wage_is_paid_once_and_only_to_those_engaged(self):
        play = THREE + [player([1, 1, 1], wage=9), player([1, 1, 1], wage=70), player([1, 1, 1], wage=500)]
        self.assertEqual(last_told(*play, check([1, 1, 1], [0, 1, 2]))[1][0], 70)
        self.assertEqual(last_told(*play, check([2, 0, 2], [0, 1, 2]))[1][0], 509)

    def test_a_fee_of_nothing_is_a_fee(self):
        self.assertEqual(last_told(begins([0]), player([1], wage=0), check([0], [])), [1, [0, 0], []])
        self.assertEqual(last_told(begins([0]), player([2], wage=0), check([0], [])), [1, [1, 0], []])
        self.assertEqual(last_told(begins([0]), player([0], wage=0), check([0], [])), [0, [1, 1, 0, 0]])

    def test_a_piece_of_several_roles(self):
        play = [begins([0, 0, 0]), piece(10, [0, 1, 2]), piece(20, [0, 2]), ANY, ANY]
        self.assertEqual(last_told(*play, check([0, 1, 1], [0, 1])), [1, [100, 120], [0, 30, 0], [0, 30, 0]])
        self.assertEqual(last_told(*play, check([0, 1, 0], [1, 0])), [1, [100, 80], [0, 30, 0], [20, 30, 0]])

    def test_a_player_in_nothing_has_a_list_without_members(self):
        play = THREE + [ANY, ANY, ANY]
        self.assertEqual(last_told(*play, check([1, 1, 1], [0, 1, 2])), [1, [50, 120], [], [0, 60, 0], []])

    def test_an_engaged_player_in_no_piece(self):
        play = [begins([0, 0]), piece(10, [1]), player([3, 1], since=5, till=5), player([1, 1])]
        self.assertEqual(last_told(*play, check([0, 1], [0])), [1, [102, 20], [], [0, 10, 0]])

    def test_a_piece_of_no_role_takes_its_time(self):
        play = [begins([0]), piece(10, [0]), piece(5, []), piece(10, [0]), player([1], rate=1)]
        self.assertEqual(last_told(*play, check([0], [1, 0, 2])), [1, [50, 20], [5, 25, 0]])
        self.assertEqual(last_told(*play, check([0], [0, 1, 2])), [1, [50, 25], [0, 25, 5]])

    def test_the_dearest(self):
        most = player([100001] * 5, wage=100000, rate=1000, till=3600)
        play = [begins([0] * 5)] + [piece(600, [0, 1, 2, 3, 4])] * 4 + [most] * 4
        self.assertEqual(last_told(*play, check([3, 2, 1, 0, 0], [3, 2, 1, 0])),
                         [1, [900000, 9600000]] + [[0, 2400, 0]] * 4)

    def test_pairs_that_are_kept(self):
        play = THREE + [ANY, ahead(2, 0), ahead(0, 1)]
        self.assertEqual(last_told(*play, check([0, 0, 0], [2, 0, 1]))[0], 1)


class WrongCasting(unittest.TestCase):

    def test_a_role_that_its_player_can_not_play(self):
        play = [begins([0, 0]), player([1, 0]), player([0, 1])]
        self.assertEqual(last_told(*play, check([0, 1], [])), [1, [100, 0], [], []])
        self.assertEqual(last_told(*play, check([0, 0], [])), [0, [1, 1, 1, 0]])
        self.assertEqual(last_told(*play, check([1, 1], [])), [0, [1, 1, 0, 1]])

    def test_the_lowest_role(self):
        play = [begins([0, 0, 0]), player([1, 0, 0]), player([0, 0, 0])]
        self.assertEqual(last_told(*play, check([0, 1, 0], [])), [0, [1, 1, 1, 1]])
        self.assertEqual(last_told(*play, check([1, 0, 0], [])), [0, [1, 1, 0, 1]])

    def test_it_is_told_ahead_of_roles_that_clash(self):
        play = [begins([0, 0, 0]), scene(1, [0, 1]), player([1, 1, 0]), player([1, 1, 1])]
        self.assertEqual(last_told(*play, check([0, 0, 0], [])), [0, [1, 1, 2, 0]])
        self.assertEqual(last_told(*play, check([0, 0, 1], [])), [0, [1, 2, 0, 1]])

    def test_of_pairs_that_clash_the_lowest_first_role_then_the_lowest_second(self):
        play = [begins([0] * 5), scene(1, [0, 1, 2, 3, 4])] + [player([1] * 5)] * 4
        for casting, pair in (([0, 1, 0, 1, 2], [0, 2]), ([1, 0, 0, 0, 2], [1, 2]), ([0, 1, 1, 0, 2], [0, 3]),
                              ([0, 1, 1, 2, 0], [0, 4]), ([0, 0, 0, 0, 0], [0, 1]), ([0, 1, 2, 3, 3], [3, 4]),
                              ([3, 2, 1, 2, 1], [1, 3])):
            self.assertEqual(last_told(*play, check(casting, [])), [0, [1, 2] + pair])

    def test_only_pairs_that_clash(self):
        play = [begins([0, 0, 0]), scene(1, [0, 1]), scene(1, [1, 2]), player([1, 1, 1]), player([1, 1, 1])]
        self.assertEqual(last_told(*play, check([0, 1, 0], []))[0], 1)
        self.assertEqual(last_told(*play, check([0, 1, 1], [])), [0, [1, 2, 1, 2]])

    def test_it_is_told_ahead_of_what_is_wrong_with_the_order(self):
        play = THREE + [player([1, 1, 0], since=1, till=1), ahead(0, 1)]
        self.assertEqual(last_told(*play, check([0, 0, 0], [1, 0, 2])), [0, [1, 1, 2, 0]])
        play = THREE + [scene(1, [0, 1]), player([1, 1, 1], since=1, till=1), ahead(0, 1)]
        self.assertEqual(last_told(*play, check([0, 0, 0], [1, 0, 2])), [0, [1, 2, 0, 1]])


class WrongOrder(unittest.TestCase):

    def test_a_piece_behind_one_that_it_should_be_ahead_of(self):
        play = THREE + [ANY, ahead(1, 0)]
        self.assertEqual(last_told(*play, check([0, 0, 0], [0, 1, 2])), [0, [2, 1, 0]])
        self.assertEqual(last_told(*play, check([0, 0, 0], [0, 2, 1])), [0, [2, 1, 0]])
        self.assertEqual(last_told(*play, check([0, 0, 0], [1, 2, 0]))[0], 1)

    def test_the_pair_that_was_told_first(self):
        play = THREE + [ANY, ahead(2, 1), ahead(1, 0), ahead(0, 2)]
        self.assertEqual(last_told(*play, check([0, 0, 0], [0, 1, 2])), [0, [2, 1, 0]])
        self.assertEqual(last_told(*play, check([0, 0, 0], [0, 2, 1])), [0, [2, 1, 1]])
        self.assertEqual(last_told(*play, check([0, 0, 0], [2, 1, 0])), [0, [2, 1, 2]])

    def test_it_is_told_ahead_of_players(self):
        play = THREE + [player([1, 1, 1], since=1, till=2), ahead(0, 1)]
        self.assertEqual(last_told(*play, check([0, 0, 0], [1, 0, 2])), [0, [2, 1, 0]])
        self.assertEqual(last_told(*play, check([0, 0, 0], [0, 1, 2])), [0, [2, 2, 0]])

    def test_at_the_very_minute(self):
        self.assertEqual(by_times(10, 30), [1, [100, 160], [0, 60, 20], [10, 30, 0]])

    def test_comes_a_minute_too_soon(self):
        self.assertEqual(by_times(11, 30), [0, [2, 2, 1]])

    def test_goes_a_minute_too_late(self):
        self.assertEqual(by_times(10, 29), [0, [2, 3, 1]])

    def test_too_soon_ahead_of_too_late(self):
        self.assertEqual(by_times(11, 29), [0, [2, 2, 1]])

    def test_the_first_player(self):
        soon = player([1, 1, 1], since=40)
        late = player([1, 1, 1], till=5)
        self.assertEqual(last_told(*THREE, late, soon, check([0, 1, 1], [0, 1, 2])), [0, [2, 3, 0]])
        self.assertEqual(last_told(*THREE, soon, late, check([0, 1, 1], [0, 1, 2])), [0, [2, 2, 0]])
        self.assertEqual(last_told(*THREE, ANY, late, soon, check([0, 1, 2], [0, 1, 2])), [0, [2, 3, 1]])
        self.assertEqual(last_told(*THREE, ANY, soon, late, check([1, 0, 2], [0, 1, 2])), [0, [2, 2, 1]])

    def test_nothing_is_wrong_with_who_does_not_come(self):
        play = THREE + [player([1, 1, 1], since=1, till=1), ANY]
        self.assertEqual(last_told(*play, check([1, 1, 1], [0, 1, 2])), [1, [50, 120], [], [0, 60, 0]])


class Refusal(unittest.TestCase):

    def test_not_a_player_for_each_role(self):
        for casting in ([], [0], [0, 1], [0, 1, 0, 1], [0] * 20):
            self.assertEqual(last_told(*THREE, ANY, ANY, check(casting, [0, 1, 2])), [-1])

    def test_a_player_that_there_is_not(self):
        for casting in ([2, 0, 0], [0, 2, 0], [0, 1, 2], [0, 0, BIGGEST]):
            self.assertEqual(last_told(*THREE, ANY, ANY, check(casting, [0, 1, 2])), [-1])

    def test_not_each_piece_once(self):
        for pieces in ([], [0], [0, 1], [0, 1, 2, 3], [0, 1, 2, 0], [0, 1, 3], [0, 1, BIGGEST], [0, 1, 1], [2, 2, 2],
                       [0] * 20, list(range(20))):
            self.assertEqual(last_told(*THREE, ANY, ANY, check([0, 1, 0], pieces)), [-1])

    def test_a_piece_where_there_is_none(self):
        self.assertEqual(last_told(begins([0]), player([1]), check([0], [0])), [-1])

    def test_both_wrong(self):
        self.assertEqual(last_told(*THREE, ANY, check([], [])), [-1])

    def test_it_is_told_ahead_of_what_is_wrong_with_the_plan(self):
        self.assertEqual(last_told(*THREE, player([0, 0, 0]), check([0, 0, 0], [0, 1])), [-1])
        self.assertEqual(last_told(*THREE, player([0, 0, 0]), check([0, 0, 1], [0, 1, 2])), [-1])

    def test_leaves_the_play_as_it_was(self):
        given = told(*THREE, ANY, check([0, 0, 0], [0, 1, 2]), check([0], []), check([0, 0, 0], [0, 1, 2]))
        self.assertEqual(given[-2], [-1])
        self.assertEqual(given[-1], given[-3])


if __name__ == "__main__":
    unittest.main()

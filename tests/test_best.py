import unittest

import reference
from calling import ahead, apart, begins, best, check, last_told, piece, player, scene, told

# Player 0 could have roles 0 and 1, but would wait through the long piece of role 2.
WAITING = [begins([0, 0, 0]), piece(10, [0]), piece(100, [2]), piece(10, [1]),
           player([1, 1, 0], wage=5, rate=1), player([0, 1, 0], wage=20, rate=1), player([0, 0, 1], wage=0, rate=0)]


class Answer(unittest.TestCase):

    def test_one_plan_alone(self):
        play = [begins([0]), piece(10, [0]), player([8], wage=100, rate=3)]
        self.assertEqual(last_told(*play, best()), [137, [1, 107], [0], [0]])

    def test_one_player_for_two_roles_saves_a_wage(self):
        self.assertEqual(last_told(*WAITING, best()), [25, [4, 5], [0, 0, 2], [0, 2, 1]])

    def test_a_dearer_casting_may_be_cheaper_in_all(self):
        given = told(*WAITING, ahead(0, 1), ahead(1, 2), best(), apart())
        self.assertEqual(given[-2:], [[45, [1, 25], [0, 1, 2], [0, 1, 2]], [125, [0, 0, 2], [0, 1, 2]]])

    def test_a_player_who_waits_is_paid_for_it(self):
        def with_wage(wage):
            return last_told(begins([0, 0]), piece(10, [0]), piece(30, []), piece(10, [1]), ahead(0, 1), ahead(1, 2),
                             player([1, 1], wage=0, rate=1), player([0, 1], wage=wage, rate=1), best())
        self.assertEqual(with_wage(29), [49, [1, 29], [0, 1], [0, 1, 2]])
        self.assertEqual(with_wage(30), [50, [2, 0], [0, 0], [0, 1, 2]])
        self.assertEqual(with_wage(31), [50, [1, 0], [0, 0], [0, 1, 2]])

    def test_roles_that_clash_need_two_players(self):
        play = [begins([0, 0]), player([1, 1], wage=10), player([1, 1], wage=500)]
        self.assertEqual(last_told(*play, best()), [10, [1, 10], [0, 0], []])
        self.assertEqual(last_told(*play, scene(1, [0, 1]), best()), [510, [2, 510], [0, 1], []])

    def test_fees_are_paid_for_all_roles(self):
        play = [begins([0, 0]), player([10, 3], wage=0), player([3, 10], wage=0)]
        self.assertEqual(last_told(*play, best()), [4, [1, 4], [1, 0], []])

    def test_a_player_is_left_out_who_can_not_play_the_role(self):
        self.assertEqual(last_told(begins([0]), player([0], wage=0), player([90]), best()), [139, [1, 139], [1], []])

    def test_a_player_is_left_out_whose_times_do_not_fit(self):
        play = [begins([0]), piece(10, [0]), player([1], wage=0, till=9), player([1], wage=0, since=1),
                player([1], wage=7, rate=1)]
        self.assertEqual(last_told(*play, best()), [17, [1, 7], [2], [0]])


class Earliest(unittest.TestCase):

    def test_the_lower_player_for_the_first_role_that_differs(self):
        play = [begins([0, 0]), scene(1, [0, 1]), player([1, 1]), player([1, 1]), player([1, 1])]
        self.assertEqual(last_told(*play, best()), [100, [6, 100], [0, 1], []])

    def test_all_castings_cost_the_same(self):
        play = [begins([0, 0])] + [player([1, 1], wage=0)] * 3
        self.assertEqual(last_told(*play, best()), [0, [9, 0], [0, 0], []])

    def test_the_first_role_counts_ahead_of_the_second(self):
        play = [begins([0, 0]), scene(1, [0, 1]), player([0, 1], wage=0), player([1, 0], wage=0),
                player([1, 1], wage=0)]
        self.assertEqual(last_told(*play, best()), [0, [3, 0], [1, 0], []])

    def test_the_lower_piece_at_the_first_place_that_differs(self):
        play = [begins([0]), piece(5, [0]), piece(10, []), piece(5, [0]), player([1], wage=0, rate=1, since=10)]
        self.assertEqual(last_told(*play, best()), [10, [2, 0], [0], [1, 0, 2]])

    def test_the_casting_counts_ahead_of_the_order(self):
        play = [begins([0]), piece(10, [0]), piece(5, []), player([1], since=5), player([1], till=10)]
        self.assertEqual(last_told(*play, best()), [70, [2, 50], [0], [1, 0]])

    def test_what_the_casting_of_the_earliest_costs(self):
        play = [begins([0]), piece(10, [0]), player([1], wage=20, rate=0), player([1], wage=0, rate=2)]
        self.assertEqual(last_told(*play, best()), [20, [2, 20], [0], [0]])
        play = [begins([0]), piece(10, [0]), player([1], wage=0, rate=2), player([1], wage=20, rate=0)]
        self.assertEqual(last_told(*play, best()), [20, [2, 0], [0], [0]])

    def test_plans_that_are_dearer_or_wrong_are_not_counted(self):
        play = [begins([0]), piece(10, [0]), piece(5, []), piece(10, [0]),
                player([1], rate=1), player([2], rate=1), player([1], rate=1, till=20), player([0], rate=1)]
        self.assertEqual(last_told(*play, best()), [70, [4 + 2, 50], [0], [0, 2, 1]])


class Refusal(unittest.TestCase):

    def test_a_role_that_nobody_can_play(self):
        self.assertEqual(last_told(begins([0, 0]), player([1, 0]), player([1, 0]), best()), [-6])

    def test_too_few_players_for_roles_that_clash(self):
        play = [begins([0, 0, 0]), scene(1, [0, 1, 2]), player([1, 1, 1]), player([1, 1, 1])]
        self.assertEqual(last_told(*play, best()), [-6])
        self.assertEqual(last_told(*play, player([1, 1, 1]), best()), [150, [6, 150], [0, 1, 2], []])

    def test_pairs_that_no_order_keeps(self):
        play = [begins([0]), player([1]), piece(1, [0]), piece(1, [0]), ahead(0, 1), ahead(1, 0)]
        self.assertEqual(last_told(*play, best()), [-6])

    def test_times_that_no_order_keeps(self):
        play = [begins([0]), piece(10, [0])]
        for wrong in (player([1], since=1), player([1], till=9)):
            self.assertEqual(last_told(*play, wrong, best()), [-6])
        self.assertEqual(last_told(*play, player([1], till=10), best()), [70, [1, 50], [0], [0]])

    def test_leaves_the_play_as_it_was(self):
        given = told(begins([0]), best(), best(), player([1]), best())
        self.assertEqual(given, [[1], [-6], [-6], [0], [50, [1, 50], [0], []]])


def largest(rate):
    """5 roles, 4 players, 4 pieces, 10 scenes; as the program's calls, and as the reference has it."""
    play = {"dressing": [3, 5, 7, 0, 1000],
            "scenes": [(5, [number % 3]) if number % 2 == 0 else (4, [3]) for number in range(10)],
            "players": [{"wage": 300 + 10 * who, "rate": rate + who, "since": 0, "till": 3600,
                         "fees": [1 + (role * 7 + who * 5) % 11 for role in range(5)]} for who in range(4)],
            "pieces": [(10, [0, 1]), (20, [1, 2]), (30, [2, 3]), (40, [0, 4])], "pairs": [(3, 1)]}
    calls = [begins(play["dressing"])] + [scene(*told_of) for told_of in play["scenes"]]
    calls += [player(**told_of) for told_of in play["players"]] + [piece(*told_of) for told_of in play["pieces"]]
    return play, calls + [ahead(3, 1)]


class Largest(unittest.TestCase):

    def test_every_plan_costs_nothing(self):
        play = ([begins([1000] * 5)] + [scene(1000, [])] * 10 + [player([1] * 5, wage=0, rate=0, till=3600)] * 4
                + [piece(600, [0, 1, 2, 3, 4])] * 4)
        self.assertEqual(last_told(*play, best()), [0, [1024 * 24, 0], [0] * 5, [0, 1, 2, 3]])

    def test_the_dearest(self):
        most = player([100001] * 5, wage=100000, rate=1000, till=3600)
        play = ([begins([1000] * 5)] + [scene(1000, [])] * 10 + [most] * 4 + [piece(600, [0, 1, 2, 3, 4])] * 4)
        self.assertEqual(last_told(*play, best()), [600000 + 2400000, [4 * 24, 600000], [0] * 5, [0, 1, 2, 3]])

    def test_as_the_words_tell_it(self):
        for rate in (0, 9):
            play, calls = largest(rate)
            self.assertEqual(last_told(*calls, best()), reference.best(play))

    def test_as_often_as_any_call(self):
        calls = largest(9)[1]
        given = told(*calls, *[best()] * (40 - len(calls)))
        self.assertEqual(len(given), 40)
        self.assertEqual(given[len(calls):], [given[-1]] * 20)

    def test_check_tells_the_same(self):
        calls = largest(9)[1]
        cost, many, casting, pieces = last_told(*calls, best())
        checked = last_told(*calls, check(casting, pieces))
        self.assertEqual(checked[0], 1)
        self.assertEqual(checked[1], [many[1], cost - many[1]])
        self.assertEqual(len(checked), 2 + 4)


if __name__ == "__main__":
    unittest.main()

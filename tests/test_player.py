import unittest

from calling import BIGGEST, asked, begins, last, player

THREE = begins([0, 0, 0])
FEES = [1, 0, 8]


class Answer(unittest.TestCase):

    def test_tells_the_number(self):
        self.assertEqual(asked(THREE, player(FEES), player([0, 0, 0]), player(FEES)), [3, 0, 1, 2])

    def test_each_number_at_its_bounds(self):
        self.assertEqual(last(THREE, player(FEES, wage=0)), 0)
        self.assertEqual(last(THREE, player(FEES, wage=100000)), 0)
        self.assertEqual(last(THREE, player(FEES, rate=0)), 0)
        self.assertEqual(last(THREE, player(FEES, rate=1000)), 0)
        self.assertEqual(last(THREE, player(FEES, since=0, till=0)), 0)
        self.assertEqual(last(THREE, player(FEES, since=0, till=3600)), 0)
        self.assertEqual(last(THREE, player(FEES, since=3600, till=3600)), 0)
        self.assertEqual(last(THREE, player([0, 1, 100001])), 0)
        self.assertEqual(last(THREE, player([100001, 100001, 100001])), 0)

    def test_all_at_their_last_right_numbers(self):
        self.assertEqual(last(THREE, player([100001] * 3, wage=100000, rate=1000, since=3600, till=3600)), 0)

    def test_a_number_for_each_role(self):
        for count in range(1, 6):
            self.assertEqual(last(begins([0] * count), player([1] * count)), 0)

    def test_four_players(self):
        self.assertEqual(asked(THREE, *[player(FEES)] * 4), [3, 0, 1, 2, 3])


class Refusal(unittest.TestCase):

    def test_a_minute_costs_too_much(self):
        for rate in (1001, BIGGEST):
            self.assertEqual(last(THREE, player(FEES, rate=rate)), -1)

    def test_till_when_is_before_from_when(self):
        self.assertEqual(last(THREE, player(FEES, since=1, till=0)), -1)
        self.assertEqual(last(THREE, player(FEES, since=601, till=600)), -1)
        self.assertEqual(last(THREE, player(FEES, since=3601, till=3600)), -1)
        self.assertEqual(last(THREE, player(FEES, since=BIGGEST, till=3600)), -1)

    def test_till_when_is_too_late(self):
        self.assertEqual(last(THREE, player(FEES, since=0, till=3601)), -1)
        self.assertEqual(last(THREE, player(FEES, since=3601, till=3601)), -1)
        self.assertEqual(last(THREE, player(FEES, since=BIGGEST, till=BIGGEST)), -1)

    def test_wage_too_high(self):
        for wage in (100001, BIGGEST):
            self.assertEqual(last(THREE, player(FEES, wage=wage)), -1)

    def test_a_fee_too_high_in_any_place(self):
        for place in range(3):
            for told in (100002, BIGGEST):
                fees = [0, 0, 0]
                fees[place] = told
                self.assertEqual(last(THREE, player(fees)), -1)

    def test_not_a_number_for_each_role(self):
        for count in (0, 1, 2, 4, 5, 20):
            self.assertEqual(last(THREE, player([1] * count)), -1)

    def test_one_more_than_four(self):
        self.assertEqual(asked(THREE, *[player(FEES)] * 4, player(FEES), player([0, 0, 0]))[-3:], [3, -5, -5])

    def test_first_minus_1_is_told_ahead_of_minus_5(self):
        for wrong in (player(FEES, rate=1001), player(FEES, since=2, till=1), player(FEES, till=3601)):
            self.assertEqual(last(THREE, *[player(FEES)] * 4, wrong), -1)

    def test_minus_5_is_told_ahead_of_the_second_minus_1(self):
        for wrong in (player(FEES, wage=100001), player([0, 0, 100002]), player([]), player([1] * 4),
                      player([1] * 20)):
            self.assertEqual(last(THREE, *[player(FEES)] * 4, wrong), -5)

    def test_both_minus_1_round_minus_5(self):
        wrong = player([100002], wage=100001, rate=1001)
        self.assertEqual(last(THREE, *[player(FEES)] * 4, wrong), -1)

    def test_leaves_the_play_as_it_was(self):
        given = asked(THREE, player(FEES, rate=1001), player(FEES, since=2, till=1), player(FEES, till=3601),
                      player(FEES, wage=100001), player([100002, 0, 0]), player([1]), player(FEES),
                      player([1]), player(FEES))
        self.assertEqual(given, [3, -1, -1, -1, -1, -1, -1, 0, -1, 1])


if __name__ == "__main__":
    unittest.main()

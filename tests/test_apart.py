import unittest

from calling import ahead, apart, begins, best, last_told, piece, player, scene, told


class Answer(unittest.TestCase):

    def test_what_both_cost(self):
        play = [begins([0]), piece(10, [0]), player([8], wage=100, rate=3)]
        self.assertEqual(last_told(*play, apart()), [137, [0], [0]])

    def test_the_cheapest_casting_though_its_order_is_dear(self):
        play = [begins([0]), piece(10, [0]), player([1], wage=20, rate=0), player([1], wage=19, rate=1000)]
        self.assertEqual(told(*play, apart(), best())[-2:], [[10019, [1], [0]], [20, [1, 20], [0], [0]]])

    def test_the_earliest_of_the_cheapest_castings(self):
        play = [begins([0]), piece(10, [0]), player([1], wage=20, rate=5), player([1], wage=20, rate=0)]
        self.assertEqual(last_told(*play, apart()), [70, [0], [0]])
        play = [begins([0, 0]), scene(1, [0, 1]), player([1, 1]), player([1, 1]), player([1, 1])]
        self.assertEqual(last_told(*play, apart()), [100, [0, 1], []])

    def test_the_cheapest_casting_with_which_nothing_is_wrong(self):
        play = [begins([0, 0]), scene(1, [0, 1]), player([1, 1], wage=1), player([1, 0], wage=0),
                player([9, 9], wage=0)]
        self.assertEqual(last_told(*play, apart()), [1, [1, 0], []])

    def test_the_cheapest_order_for_it(self):
        play = [begins([0, 0]), piece(10, [0]), piece(100, [1]), piece(20, [0]), player([1, 0], wage=0),
                player([0, 1], wage=0)]
        self.assertEqual(last_told(*play, apart()), [260, [0, 1], [0, 2, 1]])
        self.assertEqual(last_told(*play, ahead(1, 0), apart()), [260, [0, 1], [1, 0, 2]])
        self.assertEqual(last_told(*play, ahead(0, 1), ahead(1, 2), apart()), [460, [0, 1], [0, 1, 2]])

    def test_the_order_keeps_the_times(self):
        play = [begins([0]), piece(10, [0]), piece(5, []), player([1], wage=0, rate=1, since=5)]
        self.assertEqual(last_told(*play, apart()), [10, [0], [1, 0]])


class Refusal(unittest.TestCase):

    def test_with_every_casting_something_is_wrong(self):
        self.assertEqual(last_told(begins([0, 0]), player([1, 0]), player([1, 0]), apart()), [-6])
        self.assertEqual(last_told(begins([0, 0]), scene(1, [0, 1]), player([1, 1]), apart()), [-6])

    def test_with_every_order_for_that_casting_something_is_wrong(self):
        play = [begins([0]), piece(10, [0])]
        for wrong in (player([1], since=1), player([1], till=9)):
            self.assertEqual(last_told(*play, wrong, apart()), [-3])

    def test_though_another_casting_has_a_right_order(self):
        play = [begins([0]), piece(10, [0]), player([1], wage=0, till=9), player([1], wage=7, rate=1)]
        self.assertEqual(told(*play, apart(), best())[-2:], [[-3], [17, [1, 7], [1], [0]]])

    def test_though_another_casting_as_cheap_has_a_right_order(self):
        play = [begins([0]), piece(10, [0]), player([1], wage=7, till=9), player([1], wage=7, rate=1)]
        self.assertEqual(told(*play, apart(), best())[-2:], [[-3], [17, [1, 7], [1], [0]]])

    def test_pairs_that_no_order_keeps(self):
        play = [begins([0]), player([1]), piece(1, [0]), piece(1, [0]), ahead(0, 1), ahead(1, 0)]
        self.assertEqual(last_told(*play, apart()), [-3])

    def test_minus_6_is_told_ahead_of_minus_3(self):
        play = [begins([0]), player([0]), piece(1, [0]), piece(1, [0]), ahead(0, 1), ahead(1, 0)]
        self.assertEqual(last_told(*play, apart()), [-6])

    def test_leaves_the_play_as_it_was(self):
        given = told(begins([0]), piece(10, [0]), apart(), player([1], till=9), apart(), apart(),
                     player([1], wage=0), apart())
        self.assertEqual(given, [[1], [0], [-6], [0], [-3], [-3], [1], [20, [1], [0]]])


if __name__ == "__main__":
    unittest.main()

import unittest

from calling import BIGGEST, ahead, asked, begins, last, piece, player, scene


class Answer(unittest.TestCase):

    def test_tells_how_many_roles(self):
        for count in range(1, 6):
            self.assertEqual(last(begins([7] * count)), count)

    def test_minutes_at_their_bounds(self):
        self.assertEqual(last(begins([0])), 1)
        self.assertEqual(last(begins([1000] * 5)), 5)


class Refusal(unittest.TestCase):

    def test_no_role(self):
        self.assertEqual(last(begins([])), -1)

    def test_too_many_roles(self):
        for count in (6, 7, 20):
            self.assertEqual(last(begins([0] * count)), -1)

    def test_too_many_minutes_in_any_place(self):
        for place in range(5):
            for minutes in (1001, BIGGEST):
                dressing = [0] * 5
                dressing[place] = minutes
                self.assertEqual(last(begins(dressing)), -1)

    def test_leaves_the_play_as_it_was(self):
        for wrong in ([], [1001], [0] * 6, [0] * 20, [0, 1001]):
            given = asked(
                begins([1, 2, 3]), scene(1, [2]), player([1, 1, 1]), piece(1, [2]), piece(1, []), ahead(0, 1),
                begins(wrong),
                scene(1, [2]), scene(1, [3]), player([1, 1, 1]), player([1]), piece(1, [2]),
                ahead(0, 1), ahead(1, 0))
            self.assertEqual(given, [3, 0, 0, 0, 1, 1, -1, 1, -1, 1, -1, 2, -3, 2])

    def test_ahead_of_the_first_right_one(self):
        self.assertEqual(asked(begins([]), scene(0, []), scene(0, [0])), [-1, 0, -1])


class NothingYet(unittest.TestCase):

    def test_there_are_no_roles(self):
        self.assertEqual(asked(scene(5, [0]), piece(5, [0]), player([1])), [-1, -1, -1])

    def test_what_has_no_roles_can_be_told(self):
        self.assertEqual(asked(scene(5, []), player([]), piece(5, []), scene(5, []), player([]), piece(5, [])),
                         [0, 0, 0, 1, 1, 1])

    def test_there_are_no_pieces(self):
        self.assertEqual(asked(ahead(0, 1), ahead(0, 0)), [-2, -2])

    def test_pairs_can_be_told_of_pieces_without_roles(self):
        self.assertEqual(asked(piece(1, []), piece(1, []), ahead(1, 0)), [0, 1, 1])

    def test_begins_forgets_what_was_told_ahead_of_it(self):
        given = asked(scene(5, []), player([]), piece(5, []), begins([0]),
                      scene(5, []), player([0]), ahead(0, 0), piece(5, []))
        self.assertEqual(given, [0, 0, 0, 1, 0, 0, -2, 0])


class Again(unittest.TestCase):

    def test_there_are_no_scenes_players_pieces(self):
        given = asked(begins([0, 0]), scene(1, [0]), scene(1, [1]), player([1, 1]), player([1, 1]),
                      piece(1, [0]), piece(1, [1]), ahead(0, 1),
                      begins([0, 0]), ahead(0, 1), scene(1, [0]), player([1, 1]), piece(1, [0]))
        self.assertEqual(given, [2, 0, 1, 0, 1, 0, 1, 1, 2, -2, 0, 0, 0])

    def test_pairs_are_forgotten(self):
        given = asked(begins([0]), piece(1, []), piece(1, []), ahead(0, 1), ahead(1, 0),
                      begins([0]), piece(1, []), piece(1, []), ahead(0, 1), ahead(1, 0))
        self.assertEqual(given, [1, 0, 1, 1, 2, 1, 0, 1, 1, 2])

    def test_the_new_roles_count(self):
        given = asked(begins([0, 0, 0]), begins([0]), scene(1, [0]), scene(1, [1]), player([1]), player([1, 1, 1]),
                      piece(1, [0]), piece(1, [1]))
        self.assertEqual(given, [3, 1, 0, -1, 0, -1, 0, -1])
        given = asked(begins([0]), begins([0, 0, 0]), scene(1, [2]), player([1]), player([1, 1, 1]), piece(1, [2]))
        self.assertEqual(given, [1, 3, 0, -1, 0, 0])

    def test_there_is_room_again(self):
        given = asked(begins([0]), *[scene(1, [])] * 10, *[player([1])] * 4, *[piece(1, [])] * 4,
                      begins([0]), scene(1, []), player([1]), piece(1, []))
        self.assertEqual(given[-4:], [1, 0, 0, 0])


if __name__ == "__main__":
    unittest.main()

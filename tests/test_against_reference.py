"""Many plays, told by a fixed row of numbers, answered by the program and by the words told once more."""

import collections
import random
import unittest

import calling
import reference


def some_roles(chance, roles):
    return [role for role in range(roles) if chance.randrange(3) == 0]


def some_player(chance, roles, length):
    since = chance.choice([0, 0, 0, chance.randrange(length + 1)])
    till = chance.choice([3600, length, since + chance.randrange(length + 1)])
    return {"wage": chance.choice([0, 1, 5, 40]), "rate": chance.choice([0, 1, 1, 2]),
            "since": since, "till": max(since, till),
            "fees": [chance.choice([0, 1, 1, 2, 3, 20]) for _ in range(roles)]}


def some_play(chance):
    roles = chance.randrange(0, 6)
    pieces = [(chance.randrange(1, 6), some_roles(chance, roles)) for _ in range(chance.randrange(5))]
    length = sum(minutes for minutes, _ in pieces)
    pairs = [(i, j) for i in range(len(pieces)) for j in range(len(pieces)) if i != j and chance.randrange(12) == 0]
    chance.shuffle(pairs)
    return {"dressing": [chance.randrange(6) for _ in range(roles)],
            "scenes": [(chance.randrange(4), some_roles(chance, roles)) for _ in range(chance.randrange(6))],
            "players": [some_player(chance, roles, length) for _ in range(chance.choice([0, 1, 2, 2, 3, 3, 4]))],
            "pieces": pieces, "pairs": pairs}


def telling(play):
    calls = [calling.begins(play["dressing"])] if play["dressing"] else []
    calls += [calling.scene(*scene) for scene in play["scenes"]]
    calls += [calling.player(**player) for player in play["players"]]
    calls += [calling.piece(*piece) for piece in play["pieces"]]
    return calls + [calling.ahead(*pair) for pair in play["pairs"]]


def some_plan(chance, play):
    casting = [chance.randrange(len(play["players"]) or 1) for _ in play["dressing"]]
    order = list(range(len(play["pieces"])))
    chance.shuffle(order)
    return casting, order


class Same(unittest.TestCase):

    def setUp(self):
        self.seen = collections.Counter()

    def hold(self, play, asking, expected):
        calls = telling(play)
        given = calling.told(*calls, *asking)[len(calls):]
        self.assertEqual(given, expected, play)
        return given

    def see(self, name, answer):
        kind = answer[0] if answer[0] < 0 else "told"
        if name == "check" and answer[0] >= 0:
            kind = tuple(answer[1][:2]) if answer[0] == 0 else "right"
        self.seen[name, kind] += 1

    def test_best_and_apart(self):
        chance = random.Random(1)
        for _ in range(250):
            play = some_play(chance)
            given = self.hold(play, [calling.best(), calling.apart()], [reference.best(play), reference.apart(play)])
            self.see("best", given[0])
            self.see("apart", given[1])
            if given[0][0] >= 0 and given[1][0] > given[0][0]:
                self.seen["apart is dearer"] += 1
            if given[0][0] >= 0 and given[0][1][0] > 1:
                self.seen["several are as cheap"] += 1
        for kind in (("best", "told"), ("best", -6), ("apart", "told"), ("apart", -6), ("apart", -3),
                     "apart is dearer", "several are as cheap"):
            self.assertGreater(self.seen[kind], 2, kind)

    def test_check_and_order(self):
        chance = random.Random(2)
        for _ in range(500):
            play = some_play(chance)
            plans = [some_plan(chance, play) for _ in range(5)]
            asking = [calling.check(*plan) for plan in plans] + [calling.order(plan[0]) for plan in plans]
            expected = ([reference.check(play, *plan) for plan in plans]
                        + [reference.order(play, plan[0]) for plan in plans])
            given = self.hold(play, asking, expected)
            for answer in given[:5]:
                self.see("check", answer)
            for answer in given[5:]:
                self.see("order", answer)
        for kind in (("check", "right"), ("check", -1), ("check", (1, 1)), ("check", (1, 2)), ("check", (2, 1)),
                     ("check", (2, 2)), ("check", (2, 3)), ("order", "told"), ("order", -6), ("order", -1)):
            self.assertGreater(self.seen[kind], 2, kind)


if __name__ == "__main__":
    unittest.main()

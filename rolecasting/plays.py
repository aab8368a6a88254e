"""The calls on one play, read one behind another and answered."""

from rolecasting.plans import best_plan, cheapest_order, checked_plan, plan_apart

MOST_ROLES = 5
MOST_DRESSING = 1000
MOST_SCENES = 10
MOST_SCENE_MINUTES = 1000
MOST_PLAYERS = 4
MOST_WAGE = 100000
MOST_FEE = 100000
MOST_RATE = 1000
LAST_MINUTE = 3600
MOST_PIECES = 4
MOST_PIECE_MINUTES = 600

BEGINS = 0
SCENE = 1
PLAYER = 2
PIECE = 3
AHEAD = 4
BEST = 5
APART = 6
CHECK = 7
ORDER = 8


class Scene:

    def __init__(self, minutes, roles):
        self.minutes = minutes
        self.roles = roles


class Player:

    # fees are kept as they are told: 0 for a role they can't play, else 1 more than the fee.
    def __init__(self, wage, rate, since, till, fees):
        self.wage = wage
        self.rate = rate
        self.since = since
        self.till = till
        self.fees = fees


class Piece:

    def __init__(self, minutes, roles):
        self.minutes = minutes
        self.roles = roles


# Each call looks for all that it refuses before it changes anything,
# so that behind a refusal all is as it was.
class Play:

    def __init__(self):
        self.renew([])

    def renew(self, dressing):
        self.dressing = dressing
        self.scenes = []
        self.players = []
        self.pieces = []
        self.pairs = []

    def begins(self, dressing):
        if len(dressing) < 1 or len(dressing) > MOST_ROLES:
            return -1
        if max(dressing) > MOST_DRESSING:
            return -1
        self.renew(dressing)
        return len(dressing)

    def scene(self, minutes, roles):
        if minutes > MOST_SCENE_MINUTES or not self.are_rising_roles(roles):
            return -1
        if len(self.scenes) >= MOST_SCENES:
            return -5
        self.scenes.append(Scene(minutes, roles))
        return len(self.scenes) - 1

    # The document tells -1 twice: the wage and the fees are looked at only if there is room for a player.
    def player(self, wage, rate, since, till, fees):
        if rate > MOST_RATE or till < since or till > LAST_MINUTE:
            return -1
        if len(self.players) >= MOST_PLAYERS:
            return -5
        if wage > MOST_WAGE or not self.are_fees(fees):
            return -1
        self.players.append(Player(wage, rate, since, till, fees))
        return len(self.players) - 1

    def piece(self, minutes, roles):
        if minutes < 1 or minutes > MOST_PIECE_MINUTES or not self.are_rising_roles(roles):
            return -1
        if len(self.pieces) >= MOST_PIECES:
            return -5
        self.pieces.append(Piece(minutes, roles))
        return len(self.pieces) - 1

    def ahead(self, i, j):
        if i >= len(self.pieces) or j >= len(self.pieces):
            return -2
        if i == j or (i, j) in self.pairs:
            return -3
        self.pairs.append((i, j))
        return len(self.pairs)

    def are_rising_roles(self, roles):
        before = -1
        for role in roles:
            if role <= before or role >= len(self.dressing):
                return False
            before = role
        return True

    def are_fees(self, fees):
        if len(fees) != len(self.dressing):
            return False
        for told in fees:
            # What is told is 1 more than the fee.
            if told > MOST_FEE + 1:
                return False
        return True


class Reader:

    def __init__(self, numbers):
        self.numbers = numbers
        self.place = 0

    def is_done(self):
        return self.place >= len(self.numbers)

    def number(self):
        found = self.numbers[self.place]
        self.place = self.place + 1
        return found

    # A slice is a copy: what the play keeps is never a part of what was handed in.
    def row(self):
        size = self.number()
        found = self.numbers[self.place:self.place + size]
        self.place = self.place + size
        return found


def answer_begins(play, reader):
    dressing = reader.row()
    return [play.begins(dressing)]


def answer_scene(play, reader):
    minutes = reader.number()
    roles = reader.row()
    return [play.scene(minutes, roles)]


def answer_player(play, reader):
    wage = reader.number()
    rate = reader.number()
    since = reader.number()
    till = reader.number()
    fees = reader.row()
    return [play.player(wage, rate, since, till, fees)]


def answer_piece(play, reader):
    minutes = reader.number()
    roles = reader.row()
    return [play.piece(minutes, roles)]


def answer_ahead(play, reader):
    i = reader.number()
    j = reader.number()
    return [play.ahead(i, j)]


def answer_check(play, reader):
    casting = reader.row()
    order = reader.row()
    return checked_plan(play, casting, order)


def answer_order(play, reader):
    casting = reader.row()
    return cheapest_order(play, casting)


def answer_call(play, reader):
    call = reader.number()
    if call == BEGINS:
        return answer_begins(play, reader)
    if call == SCENE:
        return answer_scene(play, reader)
    if call == PLAYER:
        return answer_player(play, reader)
    if call == PIECE:
        return answer_piece(play, reader)
    if call == AHEAD:
        return answer_ahead(play, reader)
    if call == BEST:
        return best_plan(play)
    if call == APART:
        return plan_apart(play)
    if call == CHECK:
        return answer_check(play, reader)
    if call == ORDER:
        return answer_order(play, reader)
    raise ValueError(f"there is no call {call}")


def answers(calls):
    play = Play()
    reader = Reader(calls)
    given = []
    while not reader.is_done():
        answer = answer_call(play, reader)
        given.append(len(answer))
        given.extend(answer)
    return given

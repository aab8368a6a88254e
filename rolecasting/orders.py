"""Orders of rehearsal: who is there when, what an order costs, and what is wrong with it."""


# Each list is made longer by the lower pieces first, so the orders stand with the earliest first.
def all_orders(pieces):
    found = [[]]
    for place in range(pieces):
        longer = []
        for order in found:
            longer.extend([order + [piece] for piece in range(pieces) if piece not in order])
        found = longer
    return found


# For each piece, by its number, the minute at which it begins.
def beginnings(order, pieces):
    begun = [0] * len(pieces)
    minute = 0
    for number in order:
        begun[number] = minute
        minute = minute + pieces[number].minutes
    return begun


def is_in(who, casting, piece):
    return who in [casting[role] for role in piece.roles]


def own_pieces(who, casting, pieces):
    return tuple([number for number, piece in enumerate(pieces) if is_in(who, casting, piece)])


# When one comes, when one goes and how long one waits; no numbers for one who is in no piece.
def stay_for(own, begun, pieces):
    if len(own) == 0:
        return []
    comes = min([begun[number] for number in own])
    goes = max([begun[number] + pieces[number].minutes for number in own])
    busy = sum([pieces[number].minutes for number in own])
    return [comes, goes, goes - comes - busy]


def stays_of_all(casting, order, players, pieces):
    begun = beginnings(order, pieces)
    return [stay_for(own_pieces(who, casting, pieces), begun, pieces) for who in range(len(players))]


def stay_cost(stay, player):
    if stay == []:
        return 0
    return player.rate * (stay[1] - stay[0])


def order_cost(stays, players):
    return sum([stay_cost(stay, player) for stay, player in zip(stays, players)])


# The number of what is wrong with a stay, or 0.
def wrong_with_stay(stay, player):
    if stay == []:
        return 0
    if stay[0] < player.since:
        return 2
    if stay[1] > player.till:
        return 3
    return 0


# The number of the first pair told that the order doesn't keep, or None.
def broken_pair(order, pairs):
    for told, pair in enumerate(pairs):
        if order.index(pair[0]) > order.index(pair[1]):
            return told
    return None


# The two numbers of what is wrong first, or none.
def wrong_with_order(order, pairs, stays, players):
    told = broken_pair(order, pairs)
    if told is not None:
        return [1, told]
    for who, player in enumerate(players):
        wrong = wrong_with_stay(stays[who], player)
        if wrong != 0:
            return [wrong, who]
    return []


class Cheapest:

    def __init__(self, cost, many, order):
        self.cost = cost
        self.many = many
        self.order = order


# The orders that keep the pairs, and what they cost for one casting after another.
class Rehearsals:

    def __init__(self, players, pieces, pairs):
        self.players = players
        self.pieces = pieces
        self.orders = [order for order in all_orders(len(pieces)) if broken_pair(order, pairs) is None]
        self.tables = [beginnings(order, pieces) for order in self.orders]
        self.known = {}

    # What a player costs who has these pieces, or None where something is wrong with them.
    def player_cost(self, who, own, begun):
        stay = stay_for(own, begun, self.pieces)
        if wrong_with_stay(stay, self.players[who]) != 0:
            return None
        return stay_cost(stay, self.players[who])

    # Many castings give a player the same pieces: the costs, order by order, are worked out once.
    def player_costs(self, who, own):
        if (who, own) not in self.known:
            self.known[(who, own)] = [self.player_cost(who, own, begun) for begun in self.tables]
        return self.known[(who, own)]

    # What each order costs for this casting, or None where something is wrong with it.
    def costs(self, casting):
        totals = [0] * len(self.orders)
        for who in range(len(self.players)):
            added = self.player_costs(who, own_pieces(who, casting, self.pieces))
            totals = [None if total is None or cost is None else total + cost for total, cost in zip(totals, added)]
        return totals

    def cheapest(self, casting):
        totals = self.costs(casting)
        right = [total for total in totals if total is not None]
        if right == []:
            return None
        least = min(right)
        return Cheapest(least, right.count(least), self.orders[totals.index(least)])

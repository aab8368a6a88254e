"""Plans: a casting with an order, the cheapest of them, and what is told of one."""

from rolecasting.castings import casting_cost, clashing_pairs, right_castings, wrong_with_casting
from rolecasting.orders import Rehearsals, order_cost, stays_of_all, wrong_with_order


def row(numbers):
    return [len(numbers)] + numbers


def is_casting(casting, play):
    if len(casting) != len(play.dressing):
        return False
    return all([who < len(play.players) for who in casting])


def is_order(order, play):
    return sorted(order) == list(range(len(play.pieces)))


class Plan:

    def __init__(self, casting, casting_price, cheapest):
        self.casting = casting
        self.casting_price = casting_price
        self.order = cheapest.order
        self.cost = casting_price + cheapest.cost
        self.many = cheapest.many


# For each right casting that has a right order, the plan with its cheapest one; the earliest first.
def plans_by_casting(play):
    rehearsals = Rehearsals(play.players, play.pieces, play.pairs)
    plans = []
    for casting in right_castings(play):
        cheapest = rehearsals.cheapest(casting)
        if cheapest is not None:
            plans.append(Plan(casting, casting_cost(casting, play.players), cheapest))
    return plans


def best_plan(play):
    plans = plans_by_casting(play)
    if plans == []:
        return [-6]
    least = min([plan.cost for plan in plans])
    alike = [plan for plan in plans if plan.cost == least]
    many = sum([plan.many for plan in alike])
    first = alike[0]
    return [least] + row([many, first.casting_price]) + row(first.casting) + row(first.order)


def plan_apart(play):
    castings = right_castings(play)
    if castings == []:
        return [-6]
    prices = [casting_cost(casting, play.players) for casting in castings]
    price = min(prices)
    casting = castings[prices.index(price)]
    cheapest = Rehearsals(play.players, play.pieces, play.pairs).cheapest(casting)
    if cheapest is None:
        return [-3]
    return [price + cheapest.cost] + row(casting) + row(cheapest.order)


def checked_plan(play, casting, order):
    if not is_casting(casting, play) or not is_order(order, play):
        return [-1]
    wrong = wrong_with_casting(casting, play.players, clashing_pairs(play.dressing, play.scenes))
    if wrong != []:
        return [0] + row([1] + wrong)
    stays = stays_of_all(casting, order, play.players, play.pieces)
    wrong = wrong_with_order(order, play.pairs, stays, play.players)
    if wrong != []:
        return [0] + row([2] + wrong)
    given = [1] + row([casting_cost(casting, play.players), order_cost(stays, play.players)])
    for stay in stays:
        given.extend(row(stay))
    return given


def cheapest_order(play, casting):
    if not is_casting(casting, play):
        return [-1]
    cheapest = Rehearsals(play.players, play.pieces, play.pairs).cheapest(casting)
    if cheapest is None:
        return [-6]
    return [cheapest.cost] + row([cheapest.many]) + row(cheapest.order)

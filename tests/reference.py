"""The document's words once more, as slow and plain as they are told, to hold the program's answers against."""

import itertools


def clash(play, a, b):
    for first, (_, of_first) in enumerate(play["scenes"]):
        for later, (_, of_later) in enumerate(play["scenes"]):
            between = sum(minutes for minutes, _ in play["scenes"][first + 1:later])
            for one, other in ((a, b), (b, a)):
                if one not in of_first or other not in of_later:
                    continue
                if first == later or first < later and between < play["dressing"][other]:
                    return True
    return False


def casting_wrong(play, casting):
    for role, who in enumerate(casting):
        if play["players"][who]["fees"][role] == 0:
            return [1, role, who]
    for a, b in itertools.combinations(range(len(casting)), 2):
        if casting[a] == casting[b] and clash(play, a, b):
            return [2, a, b]
    return None


def casting_cost(play, casting):
    wages = sum(play["players"][who]["wage"] for who in set(casting))
    return wages + sum(play["players"][who]["fees"][role] - 1 for role, who in enumerate(casting))


def stays(play, casting, order):
    found = [[] for _ in play["players"]]
    minute = 0
    for number in order:
        minutes, roles = play["pieces"][number]
        for who in {casting[role] for role in roles}:
            if not found[who]:
                found[who] = [minute, minute, 0]
            found[who][2] += minute - found[who][1]
            found[who][1] = minute + minutes
        minute += minutes
    return found


def order_wrong(play, casting, order):
    for number, (i, j) in enumerate(play["pairs"]):
        if list(order).index(j) < list(order).index(i):
            return [1, number]
    for who, stay in enumerate(stays(play, casting, order)):
        if stay and stay[0] < play["players"][who]["since"]:
            return [2, who]
        if stay and stay[1] > play["players"][who]["till"]:
            return [3, who]
    return None


def order_cost(play, casting, order):
    there = stays(play, casting, order)
    return sum(play["players"][who]["rate"] * (stay[1] - stay[0]) for who, stay in enumerate(there) if stay)


def castings(play):
    return itertools.product(range(len(play["players"])), repeat=len(play["dressing"]))


def orders(play):
    return itertools.permutations(range(len(play["pieces"])))


def cheapest_orders(play, casting):
    right = [(order_cost(play, casting, order), order) for order in orders(play)
             if order_wrong(play, casting, order) is None]
    return sorted(plan for plan in right if plan[0] == min(right)[0])


def best(play):
    right = sorted((casting_cost(play, casting) + order_cost(play, casting, order), casting, order)
                   for casting in castings(play) if casting_wrong(play, casting) is None
                   for order in orders(play) if order_wrong(play, casting, order) is None)
    if not right:
        return [-6]
    cost, casting, order = right[0]
    many = len([plan for plan in right if plan[0] == cost])
    return [cost, [many, casting_cost(play, casting)], list(casting), list(order)]


def apart(play):
    right = [casting for casting in castings(play) if casting_wrong(play, casting) is None]
    if not right:
        return [-6]
    price, casting = min((casting_cost(play, casting), casting) for casting in right)
    found = cheapest_orders(play, casting)
    if not found:
        return [-3]
    return [price + found[0][0], list(casting), list(found[0][1])]


def check(play, casting, order):
    if len(casting) != len(play["dressing"]) or any(who not in range(len(play["players"])) for who in casting):
        return [-1]
    if tuple(order) not in list(orders(play)):
        return [-1]
    wrong = casting_wrong(play, casting)
    if wrong:
        return [0, [1] + wrong]
    wrong = order_wrong(play, casting, order)
    if wrong:
        return [0, [2] + wrong]
    return [1, [casting_cost(play, casting), order_cost(play, casting, order)]] + stays(play, casting, order)


def order(play, casting):
    if len(casting) != len(play["dressing"]) or any(who not in range(len(play["players"])) for who in casting):
        return [-1]
    found = cheapest_orders(play, casting)
    if not found:
        return [-6]
    return [found[0][0], [len(found)], list(found[0][1])]

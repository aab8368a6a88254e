"""Castings: which roles clash, what a casting costs, and what is wrong with it."""


def comes_too_soon(role, minutes, scenes):
    between = 0
    for scene in scenes:
        if role in scene.roles and between < minutes:
            return True
        between = between + scene.minutes
    return False


# It is the role of the later scene that one has to dress for.
def lacks_time(earlier, later, dressing, scenes):
    for place, scene in enumerate(scenes):
        if earlier in scene.roles and comes_too_soon(later, dressing[later], scenes[place + 1:]):
            return True
    return False


def are_in_one_scene(one, other, scenes):
    for scene in scenes:
        if one in scene.roles and other in scene.roles:
            return True
    return False


def do_clash(one, other, dressing, scenes):
    if are_in_one_scene(one, other, scenes):
        return True
    return lacks_time(one, other, dressing, scenes) or lacks_time(other, one, dressing, scenes)


# The pairs are found rising, so that the first one that fits is the one to be told.
def clashing_pairs(dressing, scenes):
    found = []
    for low in range(len(dressing)):
        for high in range(low + 1, len(dressing)):
            if do_clash(low, high, dressing, scenes):
                found.append((low, high))
    return found


def can_play(player, role):
    return player.fees[role] > 0


# The three numbers of what is wrong first, or none.
def wrong_with_casting(casting, players, clashes):
    for role, who in enumerate(casting):
        if not can_play(players[who], role):
            return [1, role, who]
    for low, high in clashes:
        if casting[low] == casting[high]:
            return [2, low, high]
    return []


# Each list is made longer by the lower players first, so the castings stand with the earliest first.
def all_castings(roles, players):
    found = [[]]
    for role in range(roles):
        longer = []
        for casting in found:
            longer.extend([casting + [who] for who in range(players)])
        found = longer
    return found


def right_castings(play):
    clashes = clashing_pairs(play.dressing, play.scenes)
    castings = all_castings(len(play.dressing), len(play.players))
    return [casting for casting in castings if wrong_with_casting(casting, play.players, clashes) == []]


def casting_cost(casting, players):
    cost = 0
    for who, player in enumerate(players):
        if who in casting:
            cost = cost + player.wage
    for role, who in enumerate(casting):
        # What a player keeps for a role is 1 more than the fee.
        cost = cost + players[who].fees[role] - 1
    return cost

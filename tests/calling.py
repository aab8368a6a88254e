"""Writes calls as the numbers that answers takes, and asks them."""

from rolecasting.plays import answers

BIGGEST = 4294967295


def row(numbers):
    return [len(numbers)] + list(numbers)


def begins(dressing):
    return [0] + row(dressing)


def scene(minutes, roles):
    return [1, minutes] + row(roles)


def player(fees, wage=50, rate=2, since=0, till=600):
    return [2, wage, rate, since, till] + row(fees)


def piece(minutes, roles):
    return [3, minutes] + row(roles)


def ahead(i, j):
    return [4, i, j]


def best():
    return [5]


def apart():
    return [6]


def check(casting, order):
    return [7] + row(casting) + row(order)


def order(casting):
    return [8] + row(casting)


def flat(calls):
    return [number for call in calls for number in call]


def parts(numbers):
    """What stands one behind another, each part behind how many numbers it has."""
    found = []
    place = 0
    while place < len(numbers):
        end = place + 1 + numbers[place]
        if numbers[place] < 0 or end > len(numbers):
            raise AssertionError(f"not in parts: {numbers}")
        found.append(numbers[place + 1:end])
        place = end
    return found


def told(*calls):
    """For each of these calls the number that is answered first, and the lists behind it."""
    given = parts(answers(flat(calls)))
    if len(given) != len(calls):
        raise AssertionError(f"not an answer for each call: {given}")
    return [[answer[0]] + parts(answer[1:]) for answer in given]


def last_told(*calls):
    return told(*calls)[-1]


def asked(*calls):
    """The one number that each of these calls is answered with."""
    given = answers(flat(calls))
    if given[0::2] != [1] * len(calls):
        raise AssertionError(f"not one number for each call: {given}")
    return given[1::2]


def last(*calls):
    return asked(*calls)[-1]

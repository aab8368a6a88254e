"""Writes calls as the numbers that answers takes, and asks them."""

from rolecasting.plays import answers

BIGGEST = 4294967295


def row(numbers):
    return [len(numbers)] + list(numbers)


def begins(dressing):
    return [0] + row(dressing)


def scene(minutes, roles):
    return [1, minutes] + row(roles)


def player(fees, wage=50, rate=2, since=0, till=600):
    return [2, wage, rate, since, till] + row(fees)


def piece(minutes, roles):
    return [3, minutes] + row(roles)


def ahead(i, j):
    return [4, i, j]


def flat(calls):
    return [number for call in calls for number in call]


def asked(*calls):
    """The one number that each of these calls is answered with."""
    given = answers(flat(calls))
    if given[0::2] != [1] * len(calls):
        raise AssertionError(f"not one number for each call: {given}")
    return given[1::2]


def last(*calls):
    return asked(*calls)[-1]

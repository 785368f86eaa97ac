"""Calls written as the interface asks, and answers taken apart call by call."""

from sunbeds.plot import answers

GREATEST = 4294967295


def written(call, *numbers):
    return [call, len(numbers), *numbers, 0]


def begins(rows=2, columns=3, can=5, way=8):
    return written(0, rows, columns, can, way)


def level(place, high):
    return written(1, place, high)


def stands(place, high):
    return written(2, place, high)


def hour(whence=0, rise=0):
    return written(3, whence, rise)


def plant(high=10, hours=1, worth=100, kind=1, water=1):
    return written(4, high, hours, worth, kind, water)


def like(kind, other, much):
    return written(5, kind, other, much)


def dislike(kind, other, much):
    return written(6, kind, other, much)


def tap(place):
    return written(7, place)


def check(*plan):
    return written(8, *plan)


def best():
    return written(9)


def joined(calls):
    return [number for call in calls for number in call]


def taken_apart(numbers):
    parts = []
    at = 0
    while at < len(numbers):
        behind = at + 1 + numbers[at]
        parts.append(numbers[at + 1:behind])
        at = behind
    return parts


def answered(*calls):
    """Each call's answer, a list of numbers."""
    return taken_apart(answers(joined(calls)))


def last(*calls):
    """The last call's answer; none ahead of it is to be refused."""
    parts = answered(*calls)
    for part in parts[:-1]:
        if part[0] < 0:
            raise AssertionError(f"refused: {part}")
    return parts[-1]


def asked(*calls):
    """The first number of each call's answer; each of these calls answers one alone."""
    firsts = []
    for part in answered(*calls):
        if len(part) != 1:
            raise AssertionError(f"not one number alone: {part}")
        firsts.append(part[0])
    return firsts

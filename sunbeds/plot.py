"""A line's calls, read from one list of whole numbers, and their answers as another."""

from sunbeds.garden import Garden
from sunbeds.plans import best, check

BEGINS = 0
LEVEL = 1
STANDS = 2
HOUR = 3
PLANT = 4
LIKE = 5
DISLIKE = 6
TAP = 7
CHECK = 8
BEST = 9


def answers(calls):
    garden = Garden()
    answered = []
    at = 0
    while at < len(calls):
        first = at + 2
        behind = first + calls[at + 1]
        answer = answer_call(garden, calls[at], calls[first:behind])
        answered.append(len(answer))
        answered.extend(answer)
        # Behind a call's numbers stands how many lists it has, and that is always 0.
        at = behind + 1
    return answered


def answer_call(garden, call, numbers):
    if call == BEGINS:
        return [garden.begins(numbers[0], numbers[1], numbers[2], numbers[3])]
    if call == LEVEL:
        return [garden.level(numbers[0], numbers[1])]
    if call == STANDS:
        return [garden.stands(numbers[0], numbers[1])]
    if call == HOUR:
        return [garden.hour(numbers[0], numbers[1])]
    if call == PLANT:
        return [garden.plant(numbers[0], numbers[1], numbers[2], numbers[3], numbers[4])]
    if call == LIKE:
        return [garden.like(numbers[0], numbers[1], numbers[2])]
    if call == DISLIKE:
        return [garden.dislike(numbers[0], numbers[1], numbers[2])]
    if call == TAP:
        return [garden.tap(numbers[0])]
    if call == CHECK:
        return check(garden, numbers)
    if call == BEST:
        return best(garden)
    raise NotImplementedError(f"call {call}")

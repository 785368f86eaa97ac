"""Plans: which can be, what each is worth, and which is the best."""

from sunbeds.garden import NOT_AS_TOLD
from sunbeds.sun import hours_in_sun, tops
from sunbeds.watering import shortest_way

NO_PLACE_OF_ITS_OWN = -4
CANNOT_BE = -6

TOO_LITTLE_SUN = 1
TOO_LONG_A_WAY = 2


def check(garden, plan):
    if not is_plan(garden, plan):
        return [NOT_AS_TOLD]
    if not has_places_of_its_own(garden, plan):
        return [NO_PLACE_OF_ITS_OWN]
    shaded = first_shaded(garden, plan)
    if len(shaded) > 0:
        return [CANNOT_BE, TOO_LITTLE_SUN] + shaded
    way = shortest_way(garden, plan)
    if way > garden.longest_way:
        return [CANNOT_BE, TOO_LONG_A_WAY, way]
    return [0, plan_worth(garden, plan), way]


def is_plan(garden, plan):
    return len(plan) == len(garden.plants) and all([place <= garden.places for place in plan])


def has_places_of_its_own(garden, plan):
    taken = [plan[number] for number in garden.planted(plan)]
    return len(set(taken)) == len(taken) and all([garden.heights[place] == 0 for place in taken])


def first_shaded(garden, plan):
    """The first plant with fewer hours than it needs, and how many it has; nothing if each has enough."""
    all_tops = tops(garden, plan)
    for number in garden.planted(plan):
        has = hours_in_sun(garden, all_tops, plan[number])
        if has < garden.plants[number].needed_hours:
            return [number, has]
    return []


def plan_worth(garden, plan):
    planted = garden.planted(plan)
    worth = sum([garden.plants[number].worth for number in planted])
    for number in planted:
        for other in planted:
            # Two neighbours count once, not once from each side.
            if number < other and garden.steps(plan[number], plan[other]) == 1:
                worth += garden.liking(garden.plants[number].kind, garden.plants[other].kind)
    return worth


def best(garden):
    # That all are nowhere can always be and is worth 0, so nothing below 0 is the best.
    worth = 0
    count = 0
    earliest = []
    for plan in all_plans(garden):
        checked = check(garden, plan)
        if checked[0] != 0 or checked[1] < worth:
            continue
        if checked[1] > worth:
            worth = checked[1]
            count = 0
        if count == 0:
            earliest = plan
        count += 1
    return [0, worth, count] + earliest


def all_plans(garden):
    """Every plan, an earlier one ahead of a later one."""
    plans = [[]]
    for known in range(len(garden.plants)):
        longer = []
        for plan in plans:
            longer.extend([plan + [place] for place in range(garden.places + 1)])
        plans = longer
    return plans

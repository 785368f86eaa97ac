"""How long the way is on which all that a plan plants is watered."""


def shortest_way(garden, plan):
    return way_on(garden, plan, garden.planted(plan), garden.tap_place, garden.can)


def way_on(garden, plan, dry, place, in_can):
    """The fewest steps from a place, with so much in the can, to all that are dry and to the tap."""
    to_tap = garden.steps(place, garden.tap_place)
    if len(dry) == 0:
        return to_tap
    ways = []
    for number in dry:
        goal = plan[number]
        water = garden.plants[number].water
        rest = [other for other in dry if other != number]
        over_tap = to_tap + garden.steps(garden.tap_place, goal)
        ways.append(over_tap + way_on(garden, plan, rest, goal, garden.can - water))
        if water <= in_can:
            ways.append(garden.steps(place, goal) + way_on(garden, plan, rest, goal, in_can - water))
    return min(ways)

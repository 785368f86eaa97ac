"""At how many hours a planted one is in the sun."""

from sunbeds.garden import within

# One step towards the sun, by whence it shines: above is a row less, behind is a column more.
ROW_STEPS = (-1, -1, 0, 1, 1, 1, 0, -1)
COLUMN_STEPS = (0, 1, 1, 1, 0, -1, -1, -1)


def tops(garden, plan):
    """Level and height together at each place, of what stands and of what the plan puts there."""
    found = [garden.levels[place] + garden.heights[place] for place in range(garden.places)]
    for number in garden.planted(plan):
        found[plan[number]] += garden.plants[number].high
    return found


def places_towards_sun(garden, place, whence):
    found = []
    row = place // garden.columns + ROW_STEPS[whence]
    column = place % garden.columns + COLUMN_STEPS[whence]
    while within(row, 0, garden.rows - 1) and within(column, 0, garden.columns - 1):
        found.append(row * garden.columns + column)
        row += ROW_STEPS[whence]
        column += COLUMN_STEPS[whence]
    return found


def in_sun(garden, all_tops, place, hour):
    light = all_tops[place]
    for other in places_towards_sun(garden, place, hour.whence):
        light += hour.rise
        if all_tops[other] > light:
            return False
    return True


def hours_in_sun(garden, all_tops, place):
    return len([hour for hour in garden.hours if in_sun(garden, all_tops, place, hour)])

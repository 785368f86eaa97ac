"""The garden that a line's calls are about: what is told of it, and what it refuses to be told."""

NOT_AS_TOLD = -1
NO_SUCH_PLACE = -2
NO_MORE = -5

MOST_PLACES = 8
MOST_IN_CAN = 1000
LONGEST_WAY = 1000
HIGHEST = 1000
LAST_WHENCE = 7
STEEPEST_RISE = 1000
MOST_HOURS = 8
MOST_PLANTS = 3
MOST_WORTH = 100000
LAST_KIND = 5
MOST_LIKED = 9


def within(number, least, greatest):
    return least <= number <= greatest


def in_order(kind, other):
    """One key for two kinds, whichever is told first."""
    return (min(kind, other), max(kind, other))


class Hour:
    """Whence the sun shines at an hour, and by how much the light rises."""

    def __init__(self, whence, rise):
        self.whence = whence
        self.rise = rise


class Plant:
    """What is told of one plant."""

    def __init__(self, high, needed_hours, worth, kind, water):
        self.high = high
        self.needed_hours = needed_hours
        self.worth = worth
        self.kind = kind
        self.water = water


class Garden:
    """A garden with all that was told of it; a call that is refused changes nothing."""

    def __init__(self):
        self.lay_out(1, 1, 1, 0)

    def lay_out(self, rows, columns, can, longest_way):
        self.rows = rows
        self.columns = columns
        self.places = rows * columns
        self.can = can
        self.longest_way = longest_way
        self.tap_place = 0
        self.levels = [0] * self.places
        self.heights = [0] * self.places
        self.hours = []
        self.plants = []
        self.likings = {}

    def begins(self, rows, columns, can, longest_way):
        if not within(rows * columns, 1, MOST_PLACES):
            return NOT_AS_TOLD
        if not within(can, 1, MOST_IN_CAN) or longest_way > LONGEST_WAY:
            return NOT_AS_TOLD
        self.lay_out(rows, columns, can, longest_way)
        return 0

    def level(self, place, how_high):
        return self.tell_of_place(self.levels, place, how_high)

    def stands(self, place, how_high):
        return self.tell_of_place(self.heights, place, how_high)

    def tell_of_place(self, told, place, how_high):
        if place >= self.places:
            return NO_SUCH_PLACE
        if how_high > HIGHEST:
            return NOT_AS_TOLD
        told[place] = how_high
        return 0

    def hour(self, whence, rise):
        if whence > LAST_WHENCE or rise > STEEPEST_RISE:
            return NOT_AS_TOLD
        if len(self.hours) == MOST_HOURS:
            return NO_MORE
        self.hours.append(Hour(whence, rise))
        return len(self.hours) - 1

    def plant(self, high, needed_hours, worth, kind, water):
        if not within(high, 1, HIGHEST) or not within(needed_hours, 0, MOST_HOURS):
            return NOT_AS_TOLD
        if not within(worth, 0, MOST_WORTH) or not within(kind, 1, LAST_KIND):
            return NOT_AS_TOLD
        if not within(water, 1, self.can):
            return NOT_AS_TOLD
        if len(self.plants) == MOST_PLANTS:
            return NO_MORE
        self.plants.append(Plant(high, needed_hours, worth, kind, water))
        return len(self.plants) - 1

    def like(self, kind, other, much):
        return self.tell_of_kinds(kind, other, much, 1)

    def dislike(self, kind, other, much):
        return self.tell_of_kinds(kind, other, much, -1)

    def tell_of_kinds(self, kind, other, much, sign):
        if not within(kind, 1, LAST_KIND) or not within(other, 1, LAST_KIND) or much > MOST_LIKED:
            return NOT_AS_TOLD
        self.likings[in_order(kind, other)] = sign * much
        return 0

    def tap(self, place):
        if place >= self.places:
            return NO_SUCH_PLACE
        self.tap_place = place
        return 0

    def liking(self, kind, other):
        return self.likings.get(in_order(kind, other), 0)

    def planted(self, plan):
        """The numbers of the plants that the plan doesn't leave nowhere."""
        return [number for number in range(len(plan)) if plan[number] < self.places]

    def steps(self, place, other):
        rows_between = abs(place // self.columns - other // self.columns)
        columns_between = abs(place % self.columns - other % self.columns)
        return rows_between + columns_between

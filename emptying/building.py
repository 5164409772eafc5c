"""A building with its ways and people, minute by minute."""

from emptying.limits import EXIT_PLACE


class Way:
    """A way from a place other than the exit to another place, with its rate for each minute before the horizon."""

    def __init__(self, origin, target, span, rates):
        self.origin = origin
        self.target = target
        self.span = span
        self.rates = list(rates)


class Building:
    """The building at the minute now.

    newly[place][minute] counts who is newly at the place at a later minute, and who is there at the minute now;
    it is 0 for the minutes before now.
    """

    def __init__(self, places, horizon):
        self.places = places
        self.horizon = horizon
        self.now = 0
        self.ways = []
        self.newly = [[0] * (horizon + 1) for place in range(places)]
        self.gone = 0
        self.away = 0

    def copied(self):
        """Gives a building that is the same now; what happens in it leaves this one as it is."""
        other = Building(self.places, self.horizon)
        other.now = self.now
        other.ways = [Way(way.origin, way.target, way.span, way.rates) for way in self.ways]
        other.newly = [list(row) for row in self.newly]
        other.gone = self.gone
        other.away = self.away
        return other

    def has_place(self, place):
        """Tells whether there is such a place."""
        return 0 <= place < self.places

    def has_way(self, number):
        """Tells whether there is such a way."""
        return 0 <= number < len(self.ways)

    def out(self):
        """Counts who is out by now."""
        return self.gone + self.newly[EXIT_PLACE][self.now]

    def total(self):
        """Counts the people altogether, each of them once."""
        return self.gone + self.away + sum([sum(row) for row in self.newly])

    def can_enter(self, numbers):
        """Tells whether so many can enter the ways now, one number for each way."""
        waiting = [row[self.now] for row in self.newly]
        for way, number in zip(self.ways, numbers):
            if number > way.rates[self.now] or number > waiting[way.origin]:
                return False
            waiting[way.origin] -= number
        return True

    def advance(self, numbers):
        """Lets so many enter the ways, one number for each way; then it is the next minute."""
        for way, number in zip(self.ways, numbers):
            self.enter(way, number)
        self.end_minute()

    def enter(self, way, number):
        """Lets so many enter the way now."""
        arrival = self.now + way.span
        self.newly[way.origin][self.now] -= number
        if arrival > self.horizon:
            self.away += number
        else:
            self.newly[way.target][arrival] += number

    def end_minute(self):
        """Lets everybody at the exit be gone and everybody else wait; then it is the next minute."""
        later = self.now + 1
        for place in range(self.places):
            here = self.newly[place][self.now]
            self.newly[place][self.now] = 0
            if place == EXIT_PLACE:
                self.gone += here
            else:
                self.newly[place][later] += here
        self.now = later

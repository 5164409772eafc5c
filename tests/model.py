"""A second house, as slow and as plain as the document's definitions, to hold the program against.

Greatest numbers are found in two ways that share nothing with the program: by going through all possible plans one by
one, and by the least bound of all cuts. The cut of a minute is found among all cuts, and whether a plan is possible by
the sums of the definition, not minute by minute.
"""

from itertools import islice, product


class Numbers:
    """Whole numbers that look scattered and are the same in every run."""

    def __init__(self, seed):
        self.state = seed * 2654435761 % 2**32 + 1

    def below(self, limit):
        self.state = (self.state * 6364136223846793005 + 1442695040888963407) % 2**64
        return (self.state >> 33) % limit

    def between(self, least, most):
        return least + self.below(most - least + 1)


class Model:
    """A building: ways are tuples (from, to, span, rates); news[place][minute] is who is newly there, or there now."""

    def __init__(self, places, horizon):
        self.places = places
        self.horizon = horizon
        self.now = 0
        self.ways = []
        self.news = [[0] * (horizon + 1) for _ in range(places)]
        self.gone = 0
        self.away = 0

    def copy(self):
        other = Model(self.places, self.horizon)
        other.now = self.now
        other.ways = [(origin, target, span, list(rates)) for origin, target, span, rates in self.ways]
        other.news = [list(row) for row in self.news]
        other.gone = self.gone
        other.away = self.away
        return other

    def out(self):
        return self.gone + self.news[0][self.now]

    def total(self):
        return self.gone + self.away + sum(sum(row[self.now:]) for row in self.news)

    def enter(self, number, count):
        """A model in which so many have entered the way now, and nobody else can."""
        other = self.copy()
        origin, target, span, rates = other.ways[number]
        rates[self.now] = 0
        other.news[origin][self.now] -= count
        if self.now + span <= self.horizon:
            other.news[target][self.now + span] += count
        else:
            other.away += count
        return other

    def walked(self, numbers):
        """The model of the next minute when so many have entered the ways."""
        other = self
        for number, count in enumerate(numbers):
            other = other.enter(number, count)
        other = other.copy()
        now = other.now
        other.gone += other.news[0][now]
        for place in range(1, other.places):
            other.news[place][now + 1] += other.news[place][now]
        other.now += 1
        return other

    def entries(self):
        """All numbers that can enter the ways now."""
        choices = [range(rates[self.now] + 1) for _, _, _, rates in self.ways]
        for numbers in product(*choices):
            leaving = [0] * self.places
            for (origin, _, _, _), count in zip(self.ways, numbers):
                leaving[origin] += count
            if all(leaving[place] <= self.news[place][self.now] for place in range(1, self.places)):
                yield numbers

    def plans(self):
        """All possible plans: the numbers of each minute, and how many are out by each minute from now on."""
        if self.now == self.horizon:
            yield [], [self.out()]
            return
        for numbers in self.entries():
            for rest, outs in self.walked(numbers).plans():
                yield [numbers] + rest, [self.out()] + outs

    def bound(self, minute, cut):
        """The bound of a cut for the minute, told by the document's three rows."""
        def late(place, at):
            return at > minute if place == 0 else at >= cut[place]

        total = self.gone
        for place in range(self.places):
            for at in range(self.now, self.horizon + 1):
                if not late(place, at):
                    total += self.news[place][at]
        for origin, target, span, rates in self.ways:
            for at in range(self.now, self.horizon):
                if late(origin, at) and not late(target, at + span):
                    total += rates[at]
        return total

    def cuts(self):
        """All cuts with numbers from now to horizon + 1 at the places other than the exit."""
        choice = range(self.now, self.horizon + 2)
        return [(0,) + cut for cut in product(choice, repeat=self.places - 1)]

    def greatest(self):
        """The greatest numbers for the minutes from now on: the least bounds of all cuts."""
        cuts = self.cuts()
        return [min(self.bound(minute, cut) for cut in cuts) for minute in range(self.now, self.horizon + 1)]

    def cut(self, minute):
        """The bound and the numbers of the cut of the minute: of all cuts with the least bound the greatest one."""
        bounds = {cut: self.bound(minute, cut) for cut in self.cuts()}
        least = min(bounds.values())
        best = [cut for cut, bound in bounds.items() if bound == least]
        greatest = tuple(max(numbers) for numbers in zip(*best))
        assert greatest in best
        return least, [minute + 1, *greatest[1:]]

    def outs_by(self, plan):
        """How many are out by each minute by the plan, a row of numbers for each way; None if it is not possible."""
        now, horizon = self.now, self.horizon
        for (_, _, _, rates), row in zip(self.ways, plan):
            if any(number > rate for number, rate in zip(row, rates[now:])):
                return None

        def newly(place, minute):
            reached = [row[minute - span - now] for (_, target, span, _), row in zip(self.ways, plan)
                       if target == place and minute - span >= now]
            return self.news[place][minute] + sum(reached)

        def been(place, minute):
            return sum(newly(place, at) for at in range(now, minute + 1))

        for place in range(1, self.places):
            for minute in range(now, horizon):
                entered = [sum(row[:minute + 1 - now]) for way, row in zip(self.ways, plan) if way[0] == place]
                if sum(entered) > been(place, minute):
                    return None
        return [self.gone + been(0, minute) for minute in range(now, horizon + 1)]

    def orders(self):
        """The orders: way by way as many as possible, so that the greatest numbers stay what they are."""
        if self.now == self.horizon:
            return []
        wanted = self.greatest()
        model = self
        found = []
        for number, (origin, _, _, rates) in enumerate(self.ways):
            count = min(rates[self.now], model.news[origin][self.now])
            while model.enter(number, count).greatest() != wanted:
                count -= 1
            found.append(count)
            model = model.enter(number, count)
        return found

    def calls(self):
        """The calls that build this model, as it is at minute 0."""
        calls = [[0, self.places, self.horizon]]
        calls += [[1, origin, target, span, rates] for origin, target, span, rates in self.ways]
        for place, row in enumerate(self.news):
            calls += [[2, place, minute, count] for minute, count in enumerate(row) if count]
        return calls


def scattered(numbers, places, horizon, ways, people, rate):
    """A model with so many places, ways and people, and rates up to this one."""
    model = Model(places, horizon)
    while len(model.ways) < ways:
        origin = numbers.between(1, places - 1)
        target = numbers.below(places)
        if origin != target:
            span = numbers.between(1, max(1, min(3, horizon))) if numbers.below(12) else horizon + 1
            model.ways.append((origin, target, span, [numbers.between(0, rate) for _ in range(horizon)]))
    for _ in range(people):
        place = numbers.between(0, places - 1) if numbers.below(4) == 0 else numbers.between(1, places - 1)
        minute = 0 if numbers.below(3) else numbers.between(0, horizon)
        model.news[place][minute] += 1
    return model


def linked(numbers, places, horizon, ways, people, rate):
    """A model with a way from each place to the one before it, so that people come through several places."""
    model = Model(places, horizon)
    chain = [(place, place - 1) for place in range(1, places)]
    while len(model.ways) < ways:
        origin, target = chain.pop() if chain else (numbers.between(1, places - 1), numbers.below(places))
        span = (1, 1, 2, 3, horizon + 1)[numbers.below(5)] if numbers.below(3) else 1
        if origin != target:
            rates = [numbers.between(0, rate) if numbers.below(2) else rate for _ in range(horizon)]
            model.ways.append((origin, target, span, rates))
    for _ in range(people):
        place = numbers.between(1, places - 1) if numbers.below(8) else 0
        minute = numbers.between(0, horizon) if numbers.below(3) == 0 else 0
        model.news[place][minute] += 1
    return model


def small(seed):
    """A model small enough for all its plans."""
    numbers = Numbers(seed)
    while True:
        places = numbers.between(2, 3)
        ways = numbers.between(places - 1, 4)
        model = linked(numbers, places, numbers.between(2, 4), ways, numbers.between(2, 4), numbers.between(1, 2))
        if len(list(islice(model.plans(), 500))) < 500:
            return model


def larger(seed):
    """A model small enough for all its cuts."""
    numbers = Numbers(seed)
    places = numbers.between(3, 4)
    ways = numbers.between(4, 8)
    return linked(numbers, places, numbers.between(3, 6), ways, numbers.between(3, 20), numbers.between(1, 5))


def some_walk(numbers, model):
    """Numbers that can enter the ways now, one for each way."""
    left = [row[model.now] for row in model.news]
    walk = []
    for origin, _, _, rates in model.ways:
        walk.append(numbers.between(0, min(rates[model.now], left[origin])))
        left[origin] -= walk[-1]
    return walk


def later(seed, make):
    """The calls that lead to a model after some minutes, in which people walked somehow, and the model."""
    numbers = Numbers(900 + seed)
    model = make(seed)
    calls = model.calls()
    for _ in range(numbers.below(model.horizon + 1) * numbers.below(2)):
        walk = some_walk(numbers, model)
        calls.append([6, walk])
        model = model.walked(walk)
    return calls, model

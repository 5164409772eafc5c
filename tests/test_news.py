"""Requirements 6, 7 and 8: news and other walks in between, then orders, greatest numbers and cuts again."""

import unittest

from asking import ask, ask_each, last
from model import Numbers, scattered, some_walk


def followed(calls, horizon):
    """How many are out by the minute now and by each later one when the orders are followed."""
    told = ask(*calls, [7])[-1]
    told = ask(*calls, [7], *[[5]] * (horizon - told[1]))[len(calls):]
    return [answer[2] for answer in told]


def greatest(calls):
    """What operation 12 returns then."""
    told = last(*calls, [12])
    assert told[:2] == [0, len(told) - 2]
    return told[2:]


def start(seed):
    numbers = Numbers(seed)
    horizon = numbers.between(2, 4)
    return numbers, scattered(numbers, 3, horizon, numbers.between(1, 5), numbers.between(3, 12), 3)


def new_way(numbers, model):
    origin = numbers.between(1, 2)
    target = (origin + 1 + numbers.below(2)) % 3
    way = (origin, target, numbers.between(1, 3), [numbers.between(0, 3) for _ in range(model.horizon)])
    model.ways.append(way)
    return [1, *way]


def new_people(numbers, model):
    place = numbers.below(3)
    minute = numbers.between(model.now, model.horizon)
    count = numbers.between(1, 2)
    model.news[place][minute] += count
    return [2, place, minute, count]


def new_rate(numbers, model):
    way = numbers.below(len(model.ways))
    minute = numbers.between(model.now, model.horizon - 1)
    value = numbers.between(0, 5)
    model.ways[way][3][minute] = value
    return [3, way, minute, value]


class NewsInBetween(unittest.TestCase):
    def check(self, calls, model, seed):
        told = ask(*calls, [4], [7])[-2:]
        orders = model.orders()
        self.assertEqual(told[0], [0, len(orders)] + orders, (seed, calls))
        self.assertEqual(told[1], [0, model.now, model.out(), model.total()], (seed, calls))
        wanted = model.greatest()
        self.assertEqual(followed(calls, model.horizon), wanted, (seed, calls))
        self.assertEqual(greatest(calls), wanted, (seed, calls))
        self.assertEqual((wanted[0], wanted), (model.out(), sorted(wanted)), (seed, calls))
        minutes = range(model.now, model.horizon + 1)
        for minute, cut in zip(minutes, ask_each(calls, [[13, minute] for minute in minutes])):
            bound, numbers = model.cut(minute)
            self.assertEqual(cut, [0, bound, len(numbers)] + numbers, (seed, calls, minute))
            self.assertEqual(bound, wanted[minute - model.now])

    def check_state(self, calls, model, seed):
        now = model.now
        questions = [[8], [10], *[[9, place] for place in range(3)], *[[11, way] for way in range(len(model.ways))]]
        wanted = [[0, 3] + [row[now] for row in model.news]]
        wanted.append([0, len(model.ways)] + [number for way in model.ways for number in way[:3]])
        for row in [row[now + 1:] for row in model.news] + [way[3][now:] for way in model.ways]:
            wanted.append([0, len(row)] + row)
        self.assertEqual(ask_each(calls, questions), wanted, (seed, calls))

    def test_news_and_other_walks(self):
        for seed in range(40):
            numbers, model = start(seed)
            calls = model.calls()
            while model.now < model.horizon:
                self.check(calls, model, seed)
                self.check_state(calls, model, seed)
                for _ in range(numbers.below(3)):
                    news = (new_people, new_rate, new_way)[numbers.below(3 if len(model.ways) < 8 else 2)]
                    calls.append(news(numbers, model))
                self.check(calls, model, seed)
                self.check_state(calls, model, seed)
                choices = list(model.entries())
                walk = choices[numbers.below(len(choices))]
                calls.append([6, list(walk)])
                model = model.walked(walk)
            self.check(calls, model, seed)
            self.check_state(calls, model, seed)

    def test_answers_of_news(self):
        for seed in range(40):
            numbers, model = start(seed)
            calls = model.calls()
            model = model.walked([0] * len(model.ways))
            calls.append([6, [0] * len(model.ways)])
            self.assertEqual(ask(*calls, new_way(numbers, model.copy()))[-1], [0, len(model.ways)])
            people = new_people(numbers, model.copy())
            self.assertEqual(ask(*calls, people)[-1], [0, model.total() + people[3]])
            self.assertEqual(ask(*calls, new_rate(numbers, model.copy()))[-1], [0])


class MoreOrLess(unittest.TestCase):
    """Also after a walk, when people are on ways already."""

    def start(self, seed):
        numbers, model = start(seed)
        calls = model.calls()
        for _ in range(numbers.below(2)):
            walk = some_walk(numbers, model)
            calls.append([6, walk])
            model = model.walked(walk)
        return numbers, model, calls

    def check(self, before, after, most, calls):
        self.assertEqual(len(before), len(after))
        self.assertTrue(all(0 <= later - first <= most for first, later in zip(before, after)), calls)

    def test_greater_rate(self):
        for seed in range(60):
            numbers, model, calls = self.start(5000 + seed)
            way = numbers.below(len(model.ways))
            minute = numbers.between(model.now, model.horizon - 1)
            lists = [greatest(calls + [[3, way, minute, value]]) for value in range(6)]
            for least in range(6):
                for most in range(least, 6):
                    self.check(lists[least], lists[most], most - least, (calls, way, minute))
            self.assertEqual(lists[4], followed(calls + [[3, way, minute, 4]], model.horizon))

    def test_more_people(self):
        for seed in range(60):
            numbers, model, calls = self.start(6000 + seed)
            before = greatest(calls)
            for count in (1, 2, 5):
                for place in range(3):
                    more = calls + [[2, place, numbers.between(model.now, model.horizon), count]]
                    self.check(before, greatest(more), count, more)
                    self.assertEqual(greatest(more), followed(more, model.horizon), more)

    def test_one_more_way(self):
        for seed in range(60):
            numbers, model, calls = self.start(6500 + seed)
            closed = new_way(numbers, model)[:4] + [[0] * model.horizon]
            self.assertEqual(greatest(calls), greatest(calls + [closed]), calls)


class NothingElse(unittest.TestCase):
    def test_order_of_news_does_not_matter(self):
        for seed in range(40):
            _, model = start(7000 + seed)
            calls = model.calls()
            ways = [call for call in calls if call[0] == 1]
            people = [call for call in calls if call[0] == 2]
            other = [calls[0]] + people[::-1] + ways
            end = [[7], [4], [8], [9, 0], [9, 1], [9, 2], [12], [13, 1], [5], [7], [8], [12], [13, 2], [4], [5], [7]]
            self.assertEqual(ask(*calls, *end)[len(calls):], ask(*other, *end)[len(other):], seed)

    def test_rate_told_later_is_as_if_told_first(self):
        for seed in range(40):
            numbers, model = start(8000 + seed)
            walk = [6, [0] * len(model.ways)]
            before = model.calls() + [walk]
            model = model.walked(walk[1])
            change = new_rate(numbers, model)
            _, told_first = start(8000 + seed)
            told_first.ways = model.ways
            after = told_first.calls() + [walk]
            end = [[7], [4], [11, 0], [12], [13, model.horizon], [5], [7], [12]]
            self.assertEqual(ask(*before, change, *end)[len(before) + 1:], ask(*after, *end)[len(after):], seed)

    def test_only_people_change_the_total(self):
        for seed in range(40):
            numbers, model = start(9000 + seed)
            calls = model.calls()
            total = model.total()
            way = new_way(numbers, model.copy())
            rate = new_rate(numbers, model.copy())
            told = ask(*calls, [7], way, [7], rate, [7], [4], [7], [5], [7], [5], [7], [2, 1, model.horizon, 2], [7])
            totals = [answer[3] for answer in told[len(calls)::2]]
            self.assertEqual(totals, [total] * 6 + [total + 2], seed)


if __name__ == "__main__":
    unittest.main()

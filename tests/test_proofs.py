"""Requirements 1 and 2: the operations 12 to 15 held against all possible plans and all cuts of small buildings."""

import unittest
from itertools import islice, product
from math import prod

from asking import ask, ask_each, last
from model import Model, Numbers, larger, later, scattered, small


def minutes_of(model):
    return range(model.now, model.horizon + 1)


def in_a_row(walks, ways):
    """The numbers of a plan as operation 15 takes them: for each way, one after the other, its numbers."""
    return [walk[way] for way in range(ways) for walk in walks]


class Greatest(unittest.TestCase):
    def test_held_against_all_possible_plans(self):
        for seed in range(200):
            calls, model = later(seed, small)
            outs = [outs for _, outs in model.plans()]
            greatest = [max(numbers) for numbers in zip(*outs)]
            self.assertIn(greatest, outs)
            self.assertEqual(last(*calls, [12]), [0, len(greatest)] + greatest, calls)

    def test_held_against_all_cuts(self):
        for make, seeds in ((small, 200), (larger, 80)):
            for seed in range(seeds):
                calls, model = later(seed, make)
                greatest = model.greatest()
                self.assertEqual(last(*calls, [12]), [0, len(greatest)] + greatest, calls)

    def test_first_is_who_is_out_and_none_is_smaller_than_the_one_before(self):
        for make in (small, larger):
            for seed in range(100):
                calls, model = later(seed, make)
                status, told = ask(*calls, [7], [12])[-2:]
                self.assertEqual(told[:2], [0, model.horizon - model.now + 1])
                self.assertEqual(told[2], status[2])
                self.assertEqual(told[2:], sorted(told[2:]))


class Cuts(unittest.TestCase):
    def check(self, calls, model):
        told = ask_each(calls, [[12]] + [[13, minute] for minute in minutes_of(model)])
        for minute, greatest, answer in zip(minutes_of(model), told[0][2:], told[1:]):
            bound, cut = model.cut(minute)
            self.assertEqual(answer, [0, bound, len(cut)] + cut, (calls, minute))
            self.assertEqual(bound, greatest)
            self.assertEqual(last(*calls, [14, minute, cut]), [0, greatest])

    def test_greatest_at_every_place_of_all_cuts(self):
        for make, seeds in ((small, 200), (larger, 60)):
            for seed in range(seeds):
                self.check(*later(seed, make))

    def test_with_few_people(self):
        for seed in range(100):
            numbers = Numbers(20000 + seed)
            horizon = numbers.between(0, 4)
            model = scattered(numbers, 4, horizon, 8, numbers.between(0, 3), 2)
            self.check(model.calls(), model)

    def test_one_place(self):
        for horizon in (0, 1, 8):
            model = Model(1, horizon)
            model.news[0][horizon // 2] += 2
            model.news[0][horizon] += 3
            self.check(model.calls(), model)

    def test_five_places(self):
        for seed in range(4):
            model = scattered(Numbers(30000 + seed), 5, 3, 8, 20, 4)
            self.check(model.calls(), model)

    def test_horizon_eight(self):
        for seed in range(4):
            model = scattered(Numbers(40000 + seed), 3, 8, 8, 25, 3)
            self.check(model.calls(), model)

    def test_the_same_however_often_and_behind_whatever_is_asked(self):
        for seed in range(40):
            calls, model = later(seed, larger)
            cuts = [[13, minute] for minute in (model.now, model.horizon)]
            told = ask(*calls, *cuts, [12], [4], *cuts[::-1], [15, []], *cuts)[len(calls):]
            self.assertEqual(told[:2], told[-2:])
            self.assertEqual(told[:2], told[4:6][::-1])


class Bounds(unittest.TestCase):
    def test_held_against_the_words_of_the_document(self):
        for make in (small, larger):
            for seed in range(80):
                calls, model = later(seed, make)
                numbers = Numbers(50000 + seed)
                questions = []
                for _ in range(30):
                    most = (model.horizon + 4, 30, 100)[numbers.below(3)]
                    cut = [numbers.between(0, most) for _ in range(model.places)]
                    questions.append([14, numbers.between(model.now, model.horizon), cut])
                told = ask_each(calls, questions)
                self.assertEqual(told, [[0, model.bound(minute, cut)] for _, minute, cut in questions], calls)

    def test_no_plan_has_more_out_than_the_bound_of_any_cut(self):
        for seed in range(25):
            calls, model = later(seed, small)
            most = [max(numbers) for numbers in zip(*[outs for _, outs in model.plans()])]
            cuts = list(product(range(model.horizon + 4), repeat=model.places - 1))
            for minute, greatest in zip(minutes_of(model), most):
                told = ask_each(calls, [[14, minute, [0, *cut]] for cut in cuts])
                self.assertEqual(min(answer[1] for answer in told), greatest, (calls, minute))


class Plans(unittest.TestCase):
    def check(self, calls, model, plans):
        left = model.horizon - model.now
        told = ask_each(calls, [[15, plan] for plan in plans])
        for plan, answer in zip(plans, told):
            outs = model.outs_by([plan[left * way:left * way + left] for way in range(len(model.ways))])
            self.assertEqual(answer, [-5] if outs is None else [0, left + 1] + outs, (calls, plan))

    def test_all_numbers_a_little_beyond_the_rates(self):
        checked = 0
        for seed in range(200):
            calls, model = later(seed, small)
            choices = [range(rate + 2) for _, _, _, rates in model.ways for rate in rates[model.now:]]
            if prod(len(choice) for choice in choices) <= 600:
                self.check(calls, model, list(product(*choices)))
                checked += 1
        self.assertGreater(checked, 50)

    def test_one_more_or_less_than_in_a_possible_plan(self):
        for seed in range(120):
            calls, model = later(seed, small)
            found = []
            for walks, _ in islice(model.plans(), 0, None, 23):
                plan = in_a_row(walks, len(model.ways))
                for place, number in enumerate(plan):
                    found += [plan[:place] + [changed] + plan[place + 1:] for changed in (number - 1, number + 1)]
            self.check(calls, model, [plan for plan in found if -1 not in plan])

    def test_all_possible_plans_and_none_has_more_out(self):
        for seed in range(60):
            calls, model = later(seed, small)
            ways = len(model.ways)
            plans = list(model.plans())
            plans = plans[::1 + len(plans) // 400]
            questions = [[15, in_a_row(walks, ways)] for walks, _ in plans]
            told = ask_each(calls, questions + [[12]])
            greatest = told.pop()
            for (_, outs), answer in zip(plans, told):
                self.assertEqual(answer, [0, len(outs)] + outs, calls)
                self.assertTrue(all(out <= most for out, most in zip(answer, greatest)), calls)

    def test_there_is_a_best_plan(self):
        for make in (small, larger):
            for seed in range(60):
                calls, model = later(seed, make)
                walks = []
                for _ in range(model.now, model.horizon):
                    walks.append(last(*calls, *[[6, walk] for walk in walks], [4])[2:])
                plan, greatest = ask(*calls, [15, in_a_row(walks, len(model.ways))], [12])[-2:]
                self.assertEqual(plan, greatest, calls)

    def test_walked_minute_by_minute(self):
        for seed in range(60):
            calls, model = later(seed, small)
            for walks, _ in list(model.plans())[::37]:
                plan = last(*calls, [15, in_a_row(walks, len(model.ways))])
                told = ask(*calls, [7], *[[6, walk] for walk in walks], [15, []])[len(calls):]
                self.assertEqual([answer[2] for answer in told[:-1]], plan[2:], calls)
                self.assertEqual(told[-1], [0, 1, plan[-1]])


if __name__ == "__main__":
    unittest.main()

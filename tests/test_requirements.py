"""Requirements 1, 3, 4, 5 and 8, held against all possible plans, the bounds of all cuts, and operation 12."""

import unittest

from asking import ask, last
from model import Model, Numbers, larger, later, scattered, small, some_walk


def outs_of(model, walks):
    """How many are out by each minute when the walks are walked one after the other."""
    build = model.calls()
    answers = ask(*build, [7], *[[6, numbers] for numbers in walks])[len(build):]
    return [answer[2] for answer in answers]


class AllPlans(unittest.TestCase):
    def test_followed_orders_reach_the_greatest_number_of_all_plans(self):
        for seed in range(160):
            model = small(seed)
            plans = list(model.plans())
            greatest = [max(outs) for outs in zip(*[outs for _, outs in plans])]
            build = model.calls()
            told = ask(*build, [7], *[[5]] * model.horizon)[len(build):]
            self.assertEqual([answer[2] for answer in told], greatest, build)
            self.assertIn(greatest, [outs for _, outs in plans])
            self.assertEqual(model.greatest(), greatest, build)

    def test_orders_are_the_first_of_all_best_plans(self):
        for seed in range(160):
            model = small(seed)
            followed = []
            while model.now < model.horizon:
                plans = list(model.plans())
                greatest = [max(outs) for outs in zip(*[outs for _, outs in plans])]
                first = max(list(walks[0]) for walks, outs in plans if outs == greatest)
                build = small(seed).calls() + [[6, numbers] for numbers in followed]
                self.assertEqual(last(*build, [4]), [0, len(first)] + first, build)
                self.assertEqual(model.orders(), first, build)
                followed.append(first)
                model = model.walked(first)

    def test_orders_after_any_walk(self):
        for seed in range(40):
            model = small(seed)
            for numbers in model.entries():
                after = model.walked(numbers)
                told = last(*model.calls(), [6, list(numbers)], [4])
                orders = after.orders()
                self.assertEqual(told, [0, len(orders)] + orders, (seed, numbers))

    def test_every_plan_can_be_walked_and_none_has_more_out(self):
        for seed in range(40):
            model = small(seed)
            greatest = model.greatest()
            for walks, outs in list(model.plans())[:150]:
                walked = outs_of(model, [list(numbers) for numbers in walks])
                self.assertEqual(walked, outs, (seed, walks))
                self.assertTrue(all(out <= most for out, most in zip(walked, greatest)), (seed, walks))

    def test_what_is_not_possible_cannot_be_walked(self):
        for seed in range(20):
            model = small(seed)
            possible = [list(numbers) for numbers in model.entries()]
            for code in range(4 ** len(model.ways)):
                numbers = [code // 4**k % 4 for k in range(len(model.ways))]
                told = last(*model.calls(), [6, numbers])
                self.assertEqual(told == [-5], numbers not in possible, (seed, numbers))


class LaterMinutes(unittest.TestCase):
    def test_only_numbers_up_to_the_orders_keep_the_greatest_numbers(self):
        for seed in range(80):
            model = small(seed)
            later = model.greatest()[1:]
            orders = last(*model.calls(), [4])[2:]
            keep = [list(numbers) for numbers in model.entries() if model.walked(numbers).greatest() == later]
            self.assertEqual(max(keep), orders, seed)

    def test_followed_after_a_walk_reaches_what_is_left(self):
        for seed in range(60):
            model = small(seed)
            later = model.greatest()[1:]
            for numbers in model.entries():
                after = model.walked(numbers).greatest()
                self.assertTrue(all(out <= most for out, most in zip(after, later)))
                build = model.calls() + [[6, list(numbers)]]
                told = ask(*build, [7], *[[5]] * (model.horizon - 1))[len(build):]
                self.assertEqual([answer[2] for answer in told], after, (seed, numbers))


class GreatestNumbers(unittest.TestCase):
    """What operation 12 returns from minute to minute."""

    def test_following_reaches_them_and_leaves_them(self):
        for make in (small, larger):
            for seed in range(80):
                calls, model = later(seed, make)
                told = ask(*calls, [12], *[[5], [12]] * (model.horizon - model.now))[len(calls):]
                wanted = told[0][2:]
                for passed, (followed, greatest) in enumerate(zip(told[1::2], told[2::2]), start=1):
                    self.assertEqual(followed, [0, model.now + passed, wanted[passed]], calls)
                    self.assertEqual(greatest, [0, len(wanted) - passed] + wanted[passed:], calls)

    def test_no_walk_makes_one_greater(self):
        for seed in range(80):
            calls, model = later(seed, small)
            if model.now < model.horizon:
                wanted = last(*calls, [12])[2:]
                for numbers in model.entries():
                    walked, greatest = ask(*calls, [6, numbers], [12])[-2:]
                    self.assertEqual(greatest[:3], [0, len(wanted) - 1, walked[2]], calls)
                    self.assertTrue(all(one <= other for one, other in zip(greatest[2:], wanted[1:])), calls)

    def test_orders_are_the_first_numbers_that_leave_them(self):
        for seed in range(80):
            calls, model = later(seed, small)
            if model.now < model.horizon:
                wanted = last(*calls, [12])[3:]
                keep = [numbers for numbers in model.entries() if last(*calls, [6, numbers], [12])[2:] == wanted]
                self.assertEqual(last(*calls, [4])[2:], list(max(keep)), calls)

    def test_walks_of_a_larger_building_never_have_more_out(self):
        for seed in range(60):
            numbers = Numbers(seed)
            model = larger(seed)
            build = model.calls()
            calls = build + [[12]]
            while model.now < model.horizon:
                walk = some_walk(numbers, model)
                calls += [[6, walk], [12]]
                model = model.walked(walk)
            told = ask(*calls)[len(build):]
            for before, walked, after in zip(told[::2], told[1::2], told[2::2]):
                self.assertLessEqual(walked[2], before[3], calls)
                self.assertTrue(all(one <= other for one, other in zip(after[2:], before[3:])), calls)


class AllCuts(unittest.TestCase):
    def test_followed_orders_reach_the_least_bound_of_all_cuts(self):
        for seed in range(60):
            model = larger(seed)
            build = model.calls()
            told = ask(*build, [7], *[[5]] * model.horizon)[len(build):]
            self.assertEqual([answer[2] for answer in told], model.greatest(), build)

    def test_orders_way_by_way(self):
        for seed in range(12):
            model = larger(1000 + seed)
            walks = []
            while model.now < model.horizon:
                orders = model.orders()
                told = last(*larger(1000 + seed).calls(), *[[6, numbers] for numbers in walks], [4])
                self.assertEqual(told, [0, len(orders)] + orders, (seed, walks))
                walks.append(orders if model.now % 2 else [number // 2 for number in orders])
                model = model.walked(walks[-1])

    def test_largest_horizon(self):
        for seed in range(6):
            model = scattered(Numbers(2000 + seed), 3, 8, 8, 25, 3)
            build = model.calls()
            told = ask(*build, [7], *[[5]] * 8)[len(build):]
            self.assertEqual([answer[2] for answer in told], model.greatest(), build)
            orders = model.orders()
            self.assertEqual(last(*build, [4]), [0, 8] + orders, build)

    def test_five_places(self):
        for seed in range(6):
            model = scattered(Numbers(3000 + seed), 5, 3, 8, 25, 4)
            build = model.calls()
            told = ask(*build, [7], *[[5]] * 3)[len(build):]
            self.assertEqual([answer[2] for answer in told], model.greatest(), build)
            self.assertEqual(last(*build, [4]), [0, 8] + model.orders(), build)

    def test_model_of_the_document_example(self):
        model = Model(3, 4)
        model.ways = [(1, 0, 1, [1] * 4), (2, 1, 1, [2] * 4), (2, 0, 3, [1] * 4)]
        model.news[1][0] = 1
        model.news[2][0] = 3
        self.assertEqual(model.greatest(), [0, 1, 2, 4, 4])
        self.assertEqual(model.orders(), [1, 2, 1])
        self.assertEqual(model.bound(3, [9, 0, 0]), 4)


if __name__ == "__main__":
    unittest.main()

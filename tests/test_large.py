"""Requests as large as the document lets them be: 80 calls, 5 places, horizon 8, 8 ways, 30 people."""

import unittest

from asking import ask, ask_each, last
from model import Numbers, linked

HORIZON = 8
MINUTES = range(HORIZON + 1)
MOST_CALLS = 80


def largest(seed):
    """A building with as much of everything as there may be; the rates are up to one number from 1 to 5."""
    numbers = Numbers(70000 + seed)
    return linked(numbers, 5, HORIZON, 8, 30, numbers.between(1, 5))


def questions_at(minute):
    """Calls that only ask, twelve of the operations 12 and 13 in all minutes together."""
    plan = [0] * 8 * (HORIZON - minute)
    questions = [[13, HORIZON], [15, plan], [9, minute % 5], [14, HORIZON, [100, minute, 0, 9, 9]]]
    if minute in (0, 3, 7):
        questions.append([12])
    return questions


def all_orders(build):
    """The orders of each minute when they are followed."""
    orders = []
    for _ in range(HORIZON):
        walks = [[6, numbers] for numbers in orders]
        orders.append(last(*build, *walks, [4])[2:])
    return orders


class LargestRequests(unittest.TestCase):
    def test_eighty_calls_are_answered_like_a_few(self):
        for seed in range(8):
            build = largest(seed).calls()
            calls = list(build)
            wanted = ask(*build)
            for minute in MINUTES:
                before = build + [[5]] * minute
                asked = questions_at(minute)
                calls += asked
                wanted += [last(*before, question) for question in asked]
                if minute < HORIZON:
                    calls.append([5])
                    wanted.append(last(*before, [5]))
            rest = MOST_CALLS - len(calls)
            calls += [[11, 7]] * rest
            wanted += [[0, 0]] * rest
            self.assertEqual((len(calls), ask(*calls)), (MOST_CALLS, wanted), calls)

    def test_every_cut_is_the_greatest_of_all_cuts(self):
        for seed in range(3):
            model = largest(seed)
            told = ask_each(model.calls(), [[13, minute] for minute in MINUTES] + [[12]])
            wanted = [model.cut(minute) for minute in MINUTES]
            self.assertEqual(told[:9], [[0, bound, 5] + cut for bound, cut in wanted], seed)
            self.assertEqual(told[9], [0, 9] + [bound for bound, _ in wanted], seed)

    def test_orders_reach_what_cuts_prove(self):
        for seed in range(60):
            model = largest(seed)
            build = model.calls()
            told = ask_each(build, [[13, minute] for minute in MINUTES] + [[12]])
            greatest = told.pop()
            self.assertEqual(greatest[:2], [0, 9])
            for minute, answer in zip(MINUTES, told):
                self.assertEqual(answer[1:4], [greatest[2 + minute], 5, minute + 1], build)
                self.assertEqual(model.bound(minute, answer[3:]), greatest[2 + minute], build)
            orders = all_orders(build)
            plan = [numbers[way] for way in range(8) for numbers in orders]
            walked = ask(*build, *[[6, numbers] for numbers in orders])[len(build):]
            followed = ask(*build, *[[5]] * HORIZON)[len(build):]
            self.assertEqual(last(*build, [15, plan]), greatest, build)
            self.assertEqual([answer[2] for answer in walked], greatest[3:], build)
            self.assertEqual(followed, walked, build)


if __name__ == "__main__":
    unittest.main()

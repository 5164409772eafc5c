"""Every error of the operations, their order, and that an error changes nothing."""

import unittest

from asking import ask, last

BIG = 10**18
HUGE = (BIG, -BIG)

# A house at minute 1 of 4: somebody is out, on a way, away, at a place, still to appear; 20 people altogether.
BUILD = [
    [0, 3, 4],
    [1, 1, 0, 1, [1, 2, 1, 1]],
    [1, 2, 1, 2, [2, 2, 2, 2]],
    [1, 2, 0, 20, [1, 1, 1, 1]],
    [2, 1, 0, 6],
    [2, 2, 0, 6],
    [2, 0, 0, 2],
    [2, 1, 3, 4],
    [2, 0, 2, 2],
    [6, [1, 2, 1]],
]
# What is asked of a house afterwards: every operation, those first that change nothing.
ASK = [[7], [8], [9, 0], [9, 1], [9, 2], [10], [11, 0], [11, 1], [11, 2], [12], [13, 1], [13, 3], [13, 4], [4]]
ASK += [[14, 4, [0, 2, 1]], [14, 4, [0, 100, 3]], [15, []], [15, [0, 1, 0, 1, 1, 0, 0, 0, 1]], [15, [0] * 24]]
ASK += [[3, 2, 2, 0], [2, 2, 2, 5], [2, 2, 2, 5], [2, 2, 2, 1], [1, 2, 0, 1, [0, 1, 1, 0]], [4], [5], [12], [4]]
ASK += [[6, [1, 0, 0, 1]], [8], [5], [4], [12], [7], [0, 2, 1], [7], [12]]

# The house of BUILD at its horizon.
END = BUILD + [[6, [0, 0, 0]]] * 3


class Codes(unittest.TestCase):
    def refuses(self, code, *calls):
        """The last call is answered with this code, and what is asked then is answered as if it had not been."""
        self.assertEqual(last(*calls), [code], calls[-1])
        before = calls[:-1]
        self.assertEqual(ask(*calls, *ASK)[len(calls):], ask(*before, *ASK)[len(before):], calls[-1])

    def all_refused(self, code, calls, build=BUILD):
        for call in calls:
            self.refuses(code, *build, call)


class NothingOpen(Codes):
    def test_every_other_operation(self):
        calls = [[1, 1, 0, 1, []], [1, 0, 0, 0, [9] * 100], [2, 0, 0, 1], [2, 9, 9, 99], [3, 0, 0, 0], [3, 9, 9, 9]]
        calls += [[4], [5], [6, []], [6, [99]], [6, [-BIG] * 100], [7]]
        calls += [[1, BIG, BIG, BIG, [BIG]], [2, -BIG, -BIG, -BIG], [3, BIG, -BIG, BIG]]
        calls += [[8], [9, 0], [9, 9], [10], [11, 0], [11, -BIG], [12], [13, 0], [13, 9], [13, BIG], [14, 0, [0]]]
        calls += [[14, 9, []], [14, -BIG, [BIG] * 100], [15, []], [15, [31]], [15, [-BIG] * 100]]
        self.all_refused(-2, calls, build=[])

    def test_also_after_a_refused_opening(self):
        self.assertEqual(ask([0, 0, 0], [7], [0, 1, -1], [4], [5], [6, []]), [[-1], [-2], [-1], [-2], [-2], [-2]])
        others = [[8], [9, 0], [10], [11, 0], [12], [13, 0], [14, 0, [0]], [15, []]]
        self.assertEqual(ask([0, 6, 0], *others), [[-1]] + [[-2]] * 8)

    def test_opening_comes_first(self):
        told = ask([2, 0, 0, 1], [0, 1, 0], [2, 0, 0, 1], [7])
        self.assertEqual(told, [[-2], [0], [0, 1], [0, 0, 1, 1]])


class Opening(Codes):
    def test_out_of_range(self):
        wrong = [[0, places, 4] for places in (0, -1, 6, *HUGE)] + [[0, 3, horizon] for horizon in (-1, 9, *HUGE)]
        self.all_refused(-1, wrong + [[0, 0, 9], [0, BIG, BIG]])
        self.all_refused(-1, wrong, build=[])


class Ways(Codes):
    def test_rates_out_of_range(self):
        for wrong in (-1, 6, *HUGE):
            self.all_refused(-1, [[1, 1, 0, 1, [wrong, 0, 0, 0]], [1, 1, 0, 1, [5, 5, 5, wrong]]])

    def test_span_out_of_range(self):
        self.all_refused(-1, [[1, 1, 0, span, [1] * 4] for span in (0, -1, 21, *HUGE)])

    def test_length_of_the_rates(self):
        self.all_refused(-1, [[1, 1, 0, 1, [1] * length] for length in (0, 1, 3, 5, 100)])
        self.all_refused(-1, [[1, 1, 0, 1, [1]]], build=[[0, 2, 0]])

    def test_length_is_the_horizon_at_a_later_minute_too(self):
        self.refuses(-1, *BUILD, [5], [1, 1, 0, 1, [1, 1]])
        self.assertEqual(last(*BUILD, [5], [1, 1, 0, 1, [1] * 4]), [0, 3])

    def test_no_such_place(self):
        self.all_refused(-3, [[1, origin, 0, 1, [1] * 4] for origin in (-1, 3, *HUGE)])
        self.all_refused(-3, [[1, 1, target, 1, [1] * 4] for target in (-1, 3, *HUGE)])

    def test_cannot_lead_so(self):
        self.all_refused(-3, [[1, 0, target, 1, [1] * 4] for target in (0, 1, 2)])
        self.all_refused(-3, [[1, place, place, 1, [1] * 4] for place in (1, 2)])

    def test_too_many(self):
        self.all_refused(-6, [[1, 1, 0, 1, [1] * 4]], build=BUILD + [[1, 1, 2, 1, [1] * 4]] * 5)

    def test_order(self):
        full = BUILD + [[1, 1, 2, 1, [1] * 4]] * 5
        self.all_refused(-1, [[1, 0, 0, 0, [1] * 4], [1, 9, 0, 1, [1] * 3], [1, 1, 1, 1, [6] * 4]], build=full)
        self.all_refused(-3, [[1, 0, 1, 1, [1] * 4], [1, 1, 9, 1, [1] * 4], [1, 2, 2, 1, [1] * 4]], build=full)


class People(Codes):
    def test_count_out_of_range(self):
        self.all_refused(-1, [[2, 1, 2, count] for count in (0, -1, 31, *HUGE)])

    def test_no_such_place(self):
        self.all_refused(-3, [[2, place, 2, 1] for place in (-1, 3, *HUGE)])

    def test_minute(self):
        self.all_refused(-4, [[2, 1, minute, 1] for minute in (-1, 0, 5, *HUGE)])
        for minute in (1, 4):
            self.assertEqual(last(*BUILD, [2, 1, minute, 1]), [0, 21])
        self.all_refused(-4, [[2, 1, 3, 1], [2, 1, 5, 1]], build=END)

    def test_too_many(self):
        self.all_refused(-6, [[2, 1, 2, 11], [2, 1, 2, 30], [2, 0, 4, 11]])
        self.assertEqual(last(*BUILD, [2, 1, 2, 10]), [0, 30])
        self.all_refused(-6, [[2, 1, 2, 1], [2, 0, 1, 1]], build=BUILD + [[2, 1, 2, 10]])

    def test_order(self):
        self.all_refused(-1, [[2, 9, 9, 31], [2, -1, 1, 0], [2, 1, 0, 0]])
        self.all_refused(-3, [[2, 9, 9, 30], [2, -1, 0, 30], [2, 3, 2, 30]])
        self.all_refused(-4, [[2, 1, 0, 30], [2, 1, 9, 11]])


class Rates(Codes):
    def test_value_out_of_range(self):
        self.all_refused(-1, [[3, 0, 2, value] for value in (-1, 6, *HUGE)])

    def test_no_such_way(self):
        self.all_refused(-3, [[3, way, 2, 1] for way in (-1, 3, *HUGE)])
        self.all_refused(-3, [[3, 0, 0, 1]], build=[[0, 2, 2]])

    def test_minute(self):
        self.all_refused(-4, [[3, 0, minute, 1] for minute in (-1, 0, 4, 5, *HUGE)])
        for minute in (1, 3):
            self.assertEqual(last(*BUILD, [3, 0, minute, 1]), [0])
        self.all_refused(-4, [[3, 0, 3, 1], [3, 0, 4, 1]], build=END)
        self.all_refused(-4, [[3, 0, 0, 0], [3, 0, -1, 0]], build=[[0, 2, 0], [1, 1, 0, 1, []]])

    def test_order(self):
        self.all_refused(-1, [[3, 9, 9, 9], [3, 0, 0, -1], [3, -1, 1, 6]])
        self.all_refused(-3, [[3, 9, 9, 5], [3, -1, 0, 0], [3, 3, -1, 5]])


class Following(Codes):
    def test_at_the_horizon(self):
        self.all_refused(-4, [[5]], build=END)
        self.all_refused(-4, [[5]], build=[[0, 1, 0]])


class Walking(Codes):
    def test_numbers_out_of_range(self):
        for wrong in (-1, 31, *HUGE):
            self.all_refused(-1, [[6, [wrong, 0, 0]], [6, [0, 0, wrong]], [6, [wrong]], [6, [wrong] * 100]])

    def test_at_the_horizon(self):
        self.all_refused(-4, [[6, [0, 0, 0]], [6, [1, 1, 1]], [6, [30, 30, 30]]], build=END)
        self.all_refused(-4, [[6, []]], build=[[0, 1, 0]])

    def test_length(self):
        self.all_refused(-1, [[6, []], [6, [0]], [6, [0, 0]], [6, [0, 0, 0, 0]], [6, [0] * 100]])
        self.all_refused(-1, [[6, [0]]], build=[[0, 2, 2]])

    def test_more_than_the_rate(self):
        self.all_refused(-5, [[6, [3, 0, 0]], [6, [0, 3, 0]], [6, [0, 0, 2]], [6, [30, 30, 30]]])
        self.assertEqual(last(*BUILD, [6, [2, 2, 1]]), [0, 2, 7])

    def test_rate_of_the_minute_now(self):
        build = [[0, 2, 2], [1, 1, 0, 1, [1, 3]], [2, 1, 0, 9]]
        self.all_refused(-5, [[6, [2]]], build=build)
        self.all_refused(-5, [[6, [4]]], build=build + [[5]])
        self.assertEqual(last(*build, [5], [6, [3]]), [0, 2, 4])

    def test_more_than_the_people(self):
        build = [[0, 3, 2], [1, 1, 0, 1, [5, 5]], [1, 2, 0, 1, [5, 5]], [1, 1, 2, 1, [5, 5]], [2, 1, 0, 4], [2, 2, 1, 3]]
        self.all_refused(-5, [[6, [5, 0, 0]], [6, [0, 1, 0]], [6, [4, 0, 1]], [6, [0, 0, 5]], [6, [2, 0, 3]]],
                         build=build)
        self.assertEqual(last(*build, [6, [2, 0, 2]]), [0, 1, 2])

    def test_order(self):
        self.all_refused(-1, [[6, [31, 0, 0]], [6, [-1]], [6, [BIG] * 100]], build=END)
        self.all_refused(-4, [[6, []], [6, [0, 0]], [6, [30] * 100]], build=END)
        self.all_refused(-1, [[6, [30]], [6, [30] * 4], [6, [30] * 100]])


class Coming(Codes):
    def test_no_such_place(self):
        self.all_refused(-3, [[9, place] for place in (-1, 3, 5, *HUGE)])
        self.all_refused(-3, [[9, 1], [9, -1]], build=[[0, 1, 0]])
        self.all_refused(-3, [[9, 3]], build=END)


class RatesTold(Codes):
    def test_no_such_way(self):
        self.all_refused(-3, [[11, way] for way in (-1, 3, 8, *HUGE)])
        self.all_refused(-3, [[11, 0]], build=[[0, 2, 2]])
        self.all_refused(-3, [[11, 3], [11, -1]], build=END)


class Cuts(Codes):
    def test_minute(self):
        self.all_refused(-4, [[13, minute] for minute in (-1, 0, 5, 9, *HUGE)])
        self.all_refused(-4, [[13, 3], [13, 5]], build=END)
        self.all_refused(-4, [[13, 1], [13, -1]], build=[[0, 1, 0]])
        for build, minutes in ((BUILD, (1, 2, 3, 4)), (END, (4,)), ([[0, 1, 0]], (0,))):
            for minute in minutes:
                self.assertEqual(last(*build, [13, minute])[0], 0)


class Bounds(Codes):
    def test_numbers_out_of_range(self):
        for wrong in (-1, 101, *HUGE):
            self.all_refused(-1, [[14, 2, [wrong, 0, 0]], [14, 2, [0, wrong, 0]], [14, 2, [0, 0, wrong]]])
        self.assertEqual([last(*BUILD, [14, 2, [number] * 3])[0] for number in (0, 100)], [0, 0])

    def test_length(self):
        self.all_refused(-1, [[14, 2, [0] * length] for length in (0, 1, 2, 4, 100)])
        self.all_refused(-1, [[14, 0, []], [14, 0, [0, 0]]], build=[[0, 1, 0]])

    def test_minute(self):
        self.all_refused(-4, [[14, minute, [0, 0, 0]] for minute in (-1, 0, 5, *HUGE)])
        self.all_refused(-4, [[14, 3, [0, 0, 0]], [14, 5, [0, 0, 0]]], build=END)
        self.assertEqual([last(*BUILD, [14, minute, [0, 0, 0]])[0] for minute in (1, 2, 3, 4)], [0] * 4)

    def test_order(self):
        self.all_refused(-1, [[14, 0, [0, 0]], [14, 9, [101, 0, 0]], [14, BIG, []], [14, -1, [-1] * 100]])
        self.all_refused(-4, [[14, 0, [0, 100, 0]], [14, 9, [100, 0, 100]]])


class Plans(Codes):
    def test_numbers_out_of_range(self):
        for wrong in (-1, 31, *HUGE):
            self.all_refused(-1, [[15, [wrong] + [0] * 8], [15, [0] * 8 + [wrong]], [15, [wrong]], [15, [wrong] * 100]])

    def test_length(self):
        self.all_refused(-1, [[15, [0] * length] for length in (0, 1, 3, 8, 10, 12, 100)])
        self.all_refused(-1, [[15, [0] * length] for length in (1, 3, 100)], build=END)
        self.all_refused(-1, [[15, [0]]], build=[[0, 2, 2]])
        self.assertEqual([last(*BUILD, [15, [0] * 9])[0], last(*END, [15, []])[0]], [0, 0])

    def test_more_than_the_rate(self):
        # From now on the rates are 2, 1, 1 and 2, 2, 2 and 1, 1, 1; more people than these are at places 1 and 2.
        self.all_refused(-5, [[15, [3] + [0] * 8], [15, [0, 2] + [0] * 7], [15, [0, 0, 2] + [0] * 6]])
        self.all_refused(-5, [[15, [0] * 3 + [3] + [0] * 5], [15, [0] * 8 + [2]], [15, [30] * 9], [15, [0] * 8 + [30]]])

    def test_more_than_the_people(self):
        build = [[0, 3, 2], [1, 1, 0, 1, [5, 5]], [1, 2, 0, 1, [5, 5]], [1, 1, 2, 1, [5, 5]]]
        build += [[2, 1, 0, 4], [2, 2, 1, 3]]
        wrong = [[5, 0, 0, 0, 0, 0], [2, 3, 0, 0, 0, 0], [2, 0, 0, 0, 3, 0], [2, 0, 0, 0, 0, 3], [0, 0, 1, 0, 0, 0]]
        self.all_refused(-5, [[15, numbers] for numbers in [*wrong, [0, 0, 0, 4, 0, 0]]], build=build)
        self.assertEqual(last(*build, [15, [2, 0, 0, 5, 2, 0]]), [0, 3, 0, 2, 7])

    def test_order(self):
        self.all_refused(-1, [[15, [30] * 8], [15, [30] * 10], [15, [30] * 8 + [31]], [15, [30] * 8 + [-1]]])
        self.all_refused(-1, [[15, [30]], [15, [31]]], build=END)


if __name__ == "__main__":
    unittest.main()

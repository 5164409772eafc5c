"""The operations 8 to 15: ordinary inputs, and the edges that the document names."""

import unittest

from asking import ask, ask_each, lane, last

FULL = [[1, 1 + k % 4, 0, 1 + k % 8, [k % 6] * 8] for k in range(8)]


class Asking(unittest.TestCase):
    def told(self, build, *pairs):
        """Each pair is a question and its answer."""
        self.assertEqual(ask_each(build, [question for question, _ in pairs]), [answer for _, answer in pairs])


class Here(unittest.TestCase):
    def test_at_each_place(self):
        build = [[0, 3, 2], [2, 0, 0, 2], [2, 2, 0, 4], [2, 1, 0, 1], [2, 1, 0, 2]]
        self.assertEqual(last(*build, [8]), [0, 3, 2, 3, 4])

    def test_nobody(self):
        for places in range(1, 6):
            for horizon in (0, 8):
                self.assertEqual(last([0, places, horizon], [8]), [0, places] + [0] * places)

    def test_at_the_exit_only_who_came_there_now(self):
        told = ask(*lane(), [2, 0, 0, 7], [2, 0, 2, 4], [8], [6, [2]], [8], [6, [1]], [8], [6, [0]], [8], [7])
        self.assertEqual(told[5::2], [[0, 2, 7, 3], [0, 2, 2, 1], [0, 2, 5, 0], [0, 2, 0, 0]])
        self.assertEqual(told[-1], [0, 3, 14, 14])

    def test_who_appears_now_is_here_and_who_appears_later_is_not_yet(self):
        told = ask([0, 2, 3], [2, 1, 1, 4], [2, 0, 3, 1], [8], [6, []], [8], [2, 1, 1, 2], [2, 0, 1, 3], [8])
        self.assertEqual((told[3], told[5], told[8]), ([0, 2, 0, 0], [0, 2, 0, 4], [0, 2, 3, 6]))

    def test_nobody_on_a_way_or_away_is_at_a_place(self):
        build = [[0, 3, 4], [1, 1, 2, 2, [5] * 4], [1, 1, 2, 20, [5] * 4], [2, 1, 0, 9]]
        told = ask(*build, [6, [3, 4]], [8], [6, [0, 0]], [8], [6, [0, 0]], [6, [0, 0]], [8])
        self.assertEqual((told[5], told[7], told[10]), ([0, 3, 0, 2, 0], [0, 3, 0, 2, 3], [0, 3, 0, 2, 3]))

    def test_at_the_horizon(self):
        told = ask(*lane(), [2, 0, 3, 2], [2, 1, 3, 5], [6, [0]], [6, [1]], [6, [1]], [8])
        self.assertEqual(told[-1], [0, 2, 3, 6])
        self.assertEqual(last([0, 1, 0], [2, 0, 0, 30], [8]), [0, 1, 30])


class Coming(Asking):
    def test_who_is_on_ways_and_who_appears(self):
        build = [[0, 2, 4], [1, 1, 0, 2, [3] * 4], [2, 1, 0, 5], [2, 0, 3, 2], [2, 1, 4, 1], [2, 0, 0, 4]]
        self.told(build, ([9, 0], [0, 4, 0, 0, 2, 0]), ([9, 1], [0, 4, 0, 0, 0, 1]))
        self.told(build + [[6, [3]]], ([9, 0], [0, 3, 3, 2, 0]), ([9, 1], [0, 3, 0, 0, 1]))
        self.told(build + [[6, [3]], [6, [1]]], ([9, 0], [0, 2, 3, 0]), ([9, 1], [0, 2, 0, 1]))
        self.told(build + [[6, [3]], [6, [1]], [6, [1]]], ([9, 0], [0, 1, 1]), ([9, 1], [0, 1, 1]))
        self.told(build + [[6, [0]]] * 4, ([9, 0], [0, 0]), ([9, 1], [0, 0]))

    def test_who_waits_is_not_new(self):
        self.told([[0, 2, 2], [2, 1, 0, 5], [6, []]], ([9, 1], [0, 1, 0]))

    def test_spans_that_end_at_the_horizon_and_after_it(self):
        for span, coming in ((3, [0, 3]), (4, [0, 0]), (20, [0, 0])):
            self.told(lane(span=span) + [[6, [3]]], ([9, 0], [0, 2, *coming]))

    def test_appears_at_the_horizon_and_at_the_next_minute(self):
        self.told([[0, 1, 2], [2, 0, 2, 4], [2, 0, 1, 3], [2, 0, 0, 9]], ([9, 0], [0, 2, 3, 4]))

    def test_every_place_and_horizon(self):
        for places in (1, 5):
            for horizon in (0, 8):
                build = [[0, places, horizon]] + [[2, place, horizon, place + 1] for place in range(places)]
                for place in range(places):
                    coming = [0] * (horizon - 1) + [place + 1] if horizon else []
                    self.told(build, ([9, place], [0, horizon, *coming]))
                self.told(build, ([9, places], [-3]), ([9, -1], [-3]))


class Ways(unittest.TestCase):
    def test_none(self):
        self.assertEqual(last([0, 1, 0], [10]), [0, 0])
        self.assertEqual(last([0, 5, 8], [10]), [0, 0])

    def test_three_numbers_for_each(self):
        build = [[0, 4, 2], [1, 3, 1, 20, [1, 1]], [1, 1, 3, 1, [0, 0]], [1, 0, 1, 1, [1, 1]], [1, 3, 1, 20, [5, 5]]]
        self.assertEqual(last(*build, [10]), [0, 3, 3, 1, 20, 1, 3, 1, 3, 1, 20])

    def test_eight(self):
        told = last([0, 5, 8], *FULL, [1, 1, 0, 1, [1] * 8], [10])
        self.assertEqual(told, [0, 8] + [number for way in FULL for number in way[1:4]])

    def test_the_same_at_every_minute(self):
        told = ask(*lane(), [10], [5], [10], [5], [5], [10], [1, 1, 0, 4, [0] * 3], [10], [3, 0, 2, 0], [10])
        self.assertEqual([answer for answer in told[3:] if len(answer) > 3 and answer[1] == 1], [[0, 1, 1, 0, 1]] * 3)
        self.assertEqual(told[-3:], [[0, 2, 1, 0, 1, 1, 0, 4], [-4], [0, 2, 1, 0, 1, 1, 0, 4]])


class Rates(Asking):
    def test_from_now_on(self):
        build = [[0, 3, 4], [1, 1, 0, 1, [0, 1, 2, 5]], [1, 2, 1, 9, [5, 0, 5, 0]]]
        self.told(build, ([11, 0], [0, 4, 0, 1, 2, 5]), ([11, 1], [0, 4, 5, 0, 5, 0]), ([11, 2], [-3]))
        self.told(build + [[6, [0, 0]]] * 3, ([11, 0], [0, 1, 5]), ([11, 1], [0, 1, 0]))
        self.told(build + [[6, [0, 0]]] * 4, ([11, 0], [0, 0]), ([11, 1], [0, 0]))

    def test_changed(self):
        build = lane() + [[3, 0, 1, 0], [5], [3, 0, 2, 4], [3, 0, 0, 3]]
        self.told(build, ([11, 0], [0, 2, 0, 4]))

    def test_way_of_a_later_minute(self):
        self.told([[0, 2, 3], [5], [1, 1, 0, 1, [1, 2, 3]]], ([11, 0], [0, 2, 2, 3]))

    def test_people_on_a_way_do_not_use_it_up(self):
        self.told(lane() + [[6, [3]]], ([11, 0], [0, 2, 5, 5]))

    def test_horizon_nought_and_eight(self):
        self.told([[0, 2, 0], [1, 1, 0, 1, []]], ([11, 0], [0, 0]))
        self.told([[0, 5, 8]] + FULL, *[([11, k], [0, 8] + [k % 6] * 8) for k in range(8)], ([11, 8], [-3]))


class Greatest(Asking):
    def test_nobody_and_no_ways(self):
        self.told([[0, 1, 0]], ([12], [0, 1, 0]))
        self.told([[0, 5, 8]], ([12], [0, 9] + [0] * 9))
        self.told([[0, 2, 2], [2, 1, 0, 30]], ([12], [0, 3, 0, 0, 0]))

    def test_way_without_people(self):
        self.told([[0, 2, 2], [1, 1, 0, 1, [5, 5]]], ([12], [0, 3, 0, 0, 0]))

    def test_at_each_minute(self):
        build = lane(rate=2, people=5)
        self.told(build, ([12], [0, 4, 0, 2, 4, 5]))
        self.told(build + [[6, [1]]], ([12], [0, 3, 1, 3, 5]))
        self.told(build + [[6, [1]], [6, [0]]], ([12], [0, 2, 1, 3]))
        self.told(build + [[6, [1]], [6, [0]], [6, [2]]], ([12], [0, 1, 3]))

    def test_people_at_the_exit(self):
        build = [[0, 1, 3], [2, 0, 0, 4], [2, 0, 2, 3], [2, 0, 3, 2]]
        self.told(build, ([12], [0, 4, 4, 4, 7, 9]))
        self.told(build + [[6, []]], ([12], [0, 3, 4, 7, 9]))
        self.told(build + [[6, []]] * 3, ([12], [0, 1, 9]))
        self.told(build + [[6, []]] * 3 + [[2, 0, 3, 1]], ([12], [0, 1, 10]))

    def test_people_who_are_on_ways_away_or_appear(self):
        build = [[0, 2, 4], [1, 1, 0, 3, [5] * 4], [1, 1, 0, 20, [5] * 4], [2, 1, 0, 9], [2, 1, 1, 2], [2, 1, 4, 5]]
        self.told(build, ([12], [0, 5, 0, 0, 0, 5, 10]))
        self.told(build + [[6, [2, 5]]], ([12], [0, 4, 0, 0, 2, 6]))

    def test_spans_that_end_at_the_horizon_and_after_it(self):
        self.told(lane(span=3), ([12], [0, 4, 0, 0, 0, 3]))
        self.told(lane(span=4), ([12], [0, 4, 0, 0, 0, 0]))
        self.told(lane(span=20), ([12], [0, 4, 0, 0, 0, 0]))

    def test_rates_of_every_minute_now_included(self):
        build = [[0, 2, 4], [1, 1, 0, 1, [0, 5, 0, 1]], [2, 1, 0, 10]]
        self.told(build, ([12], [0, 5, 0, 0, 5, 5, 6]))
        self.told(build + [[3, 0, 0, 3]], ([12], [0, 5, 0, 3, 8, 8, 9]))

    def test_one_plan_for_all_minutes(self):
        build = [[0, 3, 3], [1, 2, 0, 3, [5] * 3], [1, 2, 1, 1, [1] * 3], [1, 1, 0, 1, [1] * 3], [2, 2, 0, 3]]
        self.told(build, ([12], [0, 4, 0, 0, 1, 3]))

    def test_thirty_people_in_the_largest_house(self):
        ways = [[1, 1, 0, 1, [5] * 8], [1, 2, 1, 1, [5] * 8], [1, 3, 2, 1, [5] * 8], [1, 4, 3, 1, [5] * 8]]
        self.told([[0, 5, 8], *ways, [2, 4, 0, 30]], ([12], [0, 9, 0, 0, 0, 0, 5, 10, 15, 20, 25]))

    def test_nothing_changes(self):
        told = ask(*lane(), [12], [4], [12], [7], [8], [12])
        self.assertEqual(told[3:], [[0, 4, 0, 3, 3, 3], [0, 1, 3], [0, 4, 0, 3, 3, 3], [0, 0, 0, 3], [0, 2, 0, 3],
                                    [0, 4, 0, 3, 3, 3]])


class Cut(Asking):
    def test_nobody_is_left(self):
        self.told(lane(), ([13, 1], [0, 3, 2, 2, 4]), ([13, 2], [0, 3, 2, 3, 4]), ([13, 3], [0, 3, 2, 4, 4]))

    def test_somebody_is_left(self):
        self.told(lane(), ([13, 0], [0, 0, 2, 1, 0]))
        self.told(lane(rate=1), ([13, 0], [0, 0, 2, 1, 0]), ([13, 1], [0, 1, 2, 2, 0]), ([13, 2], [0, 2, 2, 3, 0]),
                  ([13, 3], [0, 3, 2, 4, 4]))

    def test_without_people(self):
        for places in (1, 5):
            for horizon in (0, 8):
                for minute in (0, horizon):
                    cut = [minute + 1] + [horizon + 1] * (places - 1)
                    self.told([[0, places, horizon]], ([13, minute], [0, 0, places, *cut]))

    def test_a_way_without_people_makes_nobody_late(self):
        self.told([[0, 3, 2], [1, 1, 0, 1, [0, 0]], [1, 2, 1, 1, [5, 5]]], ([13, 2], [0, 0, 3, 3, 3, 3]))

    def test_who_appears_is_late_from_then_on(self):
        build = [[0, 2, 3], [2, 1, 3, 4], [2, 1, 2, 1]]
        self.told(build, ([13, 3], [0, 0, 2, 4, 2]))
        self.told([[0, 2, 2], [2, 1, 2, 4]], ([13, 0], [0, 0, 2, 1, 2]), ([13, 2], [0, 0, 2, 3, 2]))

    def test_late_by_a_way(self):
        build = [[0, 3, 4], [1, 1, 2, 2, [0, 1, 0, 0]], [2, 1, 0, 4]]
        self.told(build, ([13, 4], [0, 0, 3, 5, 0, 3]))
        self.told(build + [[3, 0, 1, 0], [3, 0, 2, 1]], ([13, 4], [0, 0, 3, 5, 0, 4]))
        self.told(build + [[3, 0, 1, 0], [3, 0, 3, 1]], ([13, 4], [0, 0, 3, 5, 0, 5]))

    def test_people_at_the_exit(self):
        build = [[0, 1, 2], [2, 0, 0, 1], [2, 0, 2, 4]]
        self.told(build, ([13, 0], [0, 1, 1, 1]), ([13, 1], [0, 1, 1, 2]), ([13, 2], [0, 5, 1, 3]))

    def test_not_before_now(self):
        build = [[0, 3, 3], [2, 1, 0, 5], [6, []]]
        self.told(build, ([13, 1], [0, 0, 3, 2, 1, 4]), ([13, 3], [0, 0, 3, 4, 1, 4]))
        self.told(build + [[6, []]] * 2, ([13, 3], [0, 0, 3, 4, 3, 4]))

    def test_who_went_out_and_who_is_away(self):
        build = [[0, 2, 2], [1, 1, 0, 1, [2, 2]], [1, 1, 0, 2, [5, 5]], [2, 1, 0, 9], [6, [2, 0]], [6, [1, 3]]]
        self.told(build, ([13, 2], [0, 3, 2, 3, 2]), ([12], [0, 1, 3]))

    def test_greatest_of_several_cuts(self):
        # Either way lets in one person: place 1 can be late or not, and is not where its number is greatest.
        build = [[0, 3, 4], [1, 2, 1, 1, [1, 0, 0, 0]], [1, 1, 0, 1, [0, 1, 0, 0]], [2, 2, 0, 9]]
        self.told(build, ([13, 4], [0, 1, 3, 5, 5, 0]), *[([14, 4, [5, k, 0]], [0, 1]) for k in range(6)])

    def test_largest_house(self):
        build = [[0, 5, 8], *FULL, [2, 1, 0, 30]]
        told = ask_each(build, [[13, minute] for minute in range(9)] + [[12]])
        self.assertEqual([answer[1] for answer in told[:9]], told[9][2:])
        self.assertEqual([answer[2:4] for answer in told[:9]], [[5, minute + 1] for minute in range(9)])


class Bound(Asking):
    def test_people_and_rates(self):
        build = lane(rate=2, people=9)
        self.told(build, ([14, 3, [0, 0]], [0, 6]), ([14, 3, [0, 1]], [0, 13]), ([14, 3, [0, 2]], [0, 11]),
                  ([14, 3, [0, 3]], [0, 9]), ([14, 3, [0, 4]], [0, 9]), ([14, 3, [0, 100]], [0, 9]),
                  ([14, 1, [0, 0]], [0, 2]), ([14, 0, [0, 0]], [0, 0]), ([14, 2, [0, 1]], [0, 11]))

    def test_number_of_the_exit_does_not_matter(self):
        build = lane(rate=2, people=9) + [[2, 0, 2, 4]]
        for minute, bound in ((0, 0), (1, 2), (2, 8), (3, 10)):
            self.told(build, *[([14, minute, [number, 0]], [0, bound]) for number in (0, 1, 2, 3, 4, 50, 100)])

    def test_people_at_the_exit(self):
        build = [[0, 1, 2], [2, 0, 0, 1], [2, 0, 1, 2], [2, 0, 2, 4]]
        self.told(build, ([14, 0, [0]], [0, 1]), ([14, 1, [0]], [0, 3]), ([14, 2, [0]], [0, 7]))
        self.told(build + [[6, []]], ([14, 1, [100]], [0, 3]), ([14, 2, [1]], [0, 7]))

    def test_people_who_appear(self):
        build = [[0, 2, 3], [2, 1, 0, 1], [2, 1, 2, 2], [2, 1, 3, 4]]
        self.told(build, *[([14, 0, [0, number]], [0, bound])
                           for number, bound in ((0, 0), (1, 1), (2, 1), (3, 3), (4, 7), (5, 7), (100, 7))])

    def test_way_between_places(self):
        build = [[0, 3, 3], [1, 1, 2, 2, [1, 2, 3]]]
        for number, bound in ((0, 0), (2, 0), (3, 1), (4, 3), (5, 6), (6, 6), (100, 6)):
            self.told(build, ([14, 3, [0, 0, number]], [0, bound]), ([14, 0, [0, 0, number]], [0, bound]))
        for number, bound in ((0, 6), (1, 5), (2, 3), (3, 0), (100, 0)):
            self.told(build, ([14, 3, [0, number, 100]], [0, bound]))

    def test_end_long_after_the_horizon(self):
        build = [[0, 3, 2], [1, 1, 2, 20, [2, 5]], [1, 2, 0, 20, [5, 5]]]
        self.told(build, *[([14, 2, [0, 0, number]], [0, bound])
                           for number, bound in ((3, 0), (20, 0), (21, 2), (22, 7), (100, 7))])
        self.told(build, ([14, 2, [100, 100, 0]], [0, 0]))

    def test_minutes_before_now_do_not_count(self):
        build = [[0, 3, 3], [1, 1, 2, 1, [1, 2, 4]], [2, 1, 0, 2], [6, [0]]]
        self.told(build, ([14, 1, [0, 0, 100]], [0, 6]), ([14, 1, [0, 1, 100]], [0, 6]), ([14, 1, [0, 2, 0]], [0, 2]))

    def test_who_went_out_counts_and_who_is_away_does_not(self):
        build = [[0, 2, 3], [1, 1, 0, 1, [2, 0, 0]], [1, 1, 0, 9, [5, 5, 5]], [2, 1, 0, 10], [2, 0, 0, 3]]
        build += [[6, [2, 4]], [6, [0, 0]]]
        self.told(build, ([14, 2, [0, 0]], [0, 5]), ([14, 2, [0, 100]], [0, 9]))

    def test_people_on_ways_count_where_they_arrive(self):
        build = [[0, 3, 4], [1, 1, 2, 3, [5, 0, 0, 0]], [2, 1, 0, 6], [6, [4]]]
        self.told(build, ([14, 4, [0, 0, 3]], [0, 0]), ([14, 4, [0, 0, 4]], [0, 4]), ([14, 4, [0, 2, 4]], [0, 6]))

    def test_at_the_horizon(self):
        build = [[0, 2, 0], [1, 1, 0, 1, []], [2, 1, 0, 4], [2, 0, 0, 1]]
        self.told(build, ([14, 0, [0, 0]], [0, 1]), ([14, 0, [100, 1]], [0, 5]))

    def test_largest_house(self):
        build = [[0, 5, 8], *[[1, 1 + k % 4, 0, 1, [5] * 8] for k in range(8)], [2, 4, 8, 30]]
        self.told(build, ([14, 8, [0] * 5], [0, 320]), ([14, 8, [100] * 5], [0, 30]),
                  ([14, 8, [0, 0, 0, 0, 9]], [0, 270]))


class Plan(Asking):
    def test_out_by_each_minute(self):
        build = lane(rate=2, people=5)
        self.told(build, ([15, [2, 2, 1]], [0, 4, 0, 2, 4, 5]), ([15, [0, 0, 0]], [0, 4, 0, 0, 0, 0]),
                  ([15, [0, 1, 2]], [0, 4, 0, 0, 1, 3]), ([15, [2, 2, 2]], [-5]), ([15, [3, 0, 0]], [-5]))

    def test_empty(self):
        self.told([[0, 2, 2], [2, 1, 0, 4], [2, 0, 0, 1]], ([15, []], [0, 3, 1, 1, 1]), ([15, [0]], [-1]))
        self.told([[0, 1, 0], [2, 0, 0, 30]], ([15, []], [0, 1, 30]))
        self.told(lane() + [[5]] * 3, ([15, []], [0, 1, 3]), ([15, [0]], [-1]))

    def test_each_way_after_the_other(self):
        build = [[0, 2, 2], [1, 1, 0, 1, [1, 3]], [1, 1, 0, 2, [2, 0]], [2, 1, 0, 6]]
        self.told(build, ([15, [1, 3, 2, 0]], [0, 3, 0, 1, 6]), ([15, [1, 2, 3, 0]], [-5]), ([15, [2, 0, 0, 0]], [-5]),
                  ([15, [0, 0, 0, 1]], [-5]))

    def test_rate_of_each_minute(self):
        build = [[0, 2, 3], [1, 1, 0, 1, [5, 0, 2]], [2, 1, 0, 30]]
        self.told(build, ([15, [5, 0, 2]], [0, 4, 0, 5, 5, 7]), ([15, [5, 1, 2]], [-5]), ([15, [5, 0, 3]], [-5]))
        self.told(build + [[3, 0, 1, 1]], ([15, [5, 1, 2]], [0, 4, 0, 5, 6, 8]))

    def test_who_reaches_a_place_goes_on_at_that_minute(self):
        build = [[0, 3, 3], [1, 2, 1, 1, [5] * 3], [1, 1, 0, 1, [5] * 3], [2, 2, 0, 4]]
        self.told(build, ([15, [4, 0, 0, 0, 4, 0]], [0, 4, 0, 0, 4, 4]), ([15, [4, 0, 0, 1, 3, 0]], [-5]),
                  ([15, [0, 4, 0, 0, 1, 0]], [-5]), ([15, [2, 2, 0, 0, 1, 3]], [0, 4, 0, 0, 1, 4]))

    def test_later_way_can_feed_an_earlier_one(self):
        build = [[0, 3, 3], [1, 1, 0, 1, [5] * 3], [1, 2, 1, 1, [5] * 3], [2, 2, 0, 4]]
        self.told(build, ([15, [0, 4, 0, 4, 0, 0]], [0, 4, 0, 0, 4, 4]))

    def test_who_appears_goes_on_at_that_minute(self):
        build = [[0, 2, 3], [1, 1, 0, 1, [5] * 3], [2, 1, 1, 2], [2, 1, 2, 1], [2, 1, 3, 9]]
        self.told(build, ([15, [0, 2, 1]], [0, 4, 0, 0, 2, 3]), ([15, [1, 1, 1]], [-5]), ([15, [0, 3, 0]], [-5]),
                  ([15, [0, 2, 2]], [-5]), ([15, [0, 0, 3]], [0, 4, 0, 0, 0, 3]))

    def test_who_is_on_a_way_already(self):
        build = [[0, 3, 3], [1, 2, 1, 2, [5] * 3], [1, 1, 0, 1, [5] * 3], [2, 2, 0, 4], [6, [4, 0]]]
        self.told(build, ([15, [0, 0, 0, 4]], [0, 3, 0, 0, 4]), ([15, [0, 0, 1, 3]], [-5]), ([15, [0, 0, 0, 5]], [-5]))

    def test_ends_at_the_horizon_and_after_it(self):
        self.told(lane(span=3), ([15, [3, 0, 0]], [0, 4, 0, 0, 0, 3]), ([15, [2, 1, 0]], [0, 4, 0, 0, 0, 2]))
        self.told(lane(span=20), ([15, [1, 1, 1]], [0, 4, 0, 0, 0, 0]), ([15, [2, 1, 1]], [-5]))

    def test_who_is_out_already(self):
        build = lane() + [[2, 0, 0, 4], [2, 0, 2, 1], [6, [1]]]
        self.told(build, ([15, [0, 0]], [0, 3, 5, 6, 6]), ([15, [1, 1]], [0, 3, 5, 7, 8]), ([15, [3, 0]], [-5]))

    def test_who_is_at_the_exit_or_away_cannot_go(self):
        build = [[0, 2, 2], [1, 1, 0, 1, [5, 5]], [1, 1, 0, 9, [5, 5]], [2, 0, 0, 5], [2, 1, 0, 2], [6, [0, 2]]]
        self.told(build, ([15, [1, 0]], [-5]), ([15, [0, 0]], [0, 2, 5, 5]))

    def test_numbers_up_to_thirty(self):
        build = lane(people=30)
        self.told(build, ([15, [30, 0, 0]], [-5]), ([15, [0, 0, 30]], [-5]), ([15, [31, 0, 0]], [-1]),
                  ([15, [5, 5, 5]], [0, 4, 0, 5, 10, 15]))

    def test_largest(self):
        build = [[0, 5, 8], *FULL, [2, 1, 0, 30]]
        plan = [0] * 64
        self.told(build, ([15, plan], [0, 9] + [0] * 9), ([15, plan[1:]], [-1]), ([15, plan + [0]], [-1]))
        plan[4 * 8:5 * 8] = [4] * 7 + [2]
        self.told(build, ([15, plan], [0, 9, 0, 0, 0, 0, 0, 4, 8, 12, 16]))

    def test_nothing_changes(self):
        questions = [[7], [8], [9, 0], [11, 0], [12], [4]]
        plans = [[15, [2, 1, 0]], [15, [3, 3, 3]], [15, [0, 0, 0]]]
        self.assertEqual(ask(*lane(), *plans, *questions)[6:], ask(*lane(), *questions)[3:])


if __name__ == "__main__":
    unittest.main()

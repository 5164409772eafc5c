"""The operations 0 to 7: ordinary inputs, and the edges that the document names."""

import unittest

from asking import ask, lane, last


class Opening(unittest.TestCase):
    def test_every_size(self):
        for places in range(1, 6):
            for horizon in range(9):
                self.assertEqual(ask([0, places, horizon], [7], [4]), [[0], [0, 0, 0, 0], [0, 0]])
                people = ask([0, places, horizon], [2, places - 1, horizon, 1], [2, places, 0, 1])
                self.assertEqual(people, [[0], [0, 1], [-3]])

    def test_the_house_before_is_discarded(self):
        told = ask(*lane(), [5], [7], [0, 2, 3], [7], [4], [6, []], [7], [3, 0, 1, 1], [6, [0]])
        self.assertEqual(told[4:], [[0, 1, 3, 3], [0], [0, 0, 0, 0], [0, 0], [0, 1, 0], [0, 1, 0, 0], [-3], [-1]])

    def test_the_house_after_is_as_if_it_were_the_first(self):
        first = [[0, 3, 4], [1, 2, 1, 1, [5] * 4], [2, 2, 0, 30], [2, 0, 0, 1], [6, [4]], [6, [3]]]
        again = lane() + [[4], [5], [7], [5], [7], [2, 0, 2, 27], [2, 0, 2, 1]]
        self.assertEqual(ask(*first, *again)[len(first):], ask(*again))

    def test_refused_opening_leaves_the_house(self):
        told = ask(*lane(), [0, 0, 3], [0, 2, 9], [7], [4])
        self.assertEqual(told[3:], [[-1], [-1], [0, 0, 0, 3], [0, 1, 3]])


class Ways(unittest.TestCase):
    def test_numbers_from_nought_on(self):
        told = ask([0, 5, 1], *[[1, 1 + k % 4, 0, 1, [k % 6]] for k in range(8)], [1, 1, 0, 1, [1]])
        self.assertEqual(told, [[0]] + [[0, k] for k in range(8)] + [[-6]])

    def test_refused_way_takes_no_number(self):
        told = ask([0, 2, 1], [1, 0, 1, 1, [1]], [1, 1, 0, 1, [6]], [1, 1, 0, 1, [1]], [1, 1, 0, 1, [1]])
        self.assertEqual(told, [[0], [-3], [-1], [0, 0], [0, 1]])

    def test_between_places_that_are_not_the_exit(self):
        told = ask([0, 3, 2], [1, 1, 2, 1, [1, 1]], [1, 2, 1, 1, [1, 1]], [1, 2, 0, 1, [1, 1]], [2, 1, 0, 1], [5], [5])
        self.assertEqual(told[-2:], [[0, 1, 0], [0, 2, 1]])

    def test_way_of_a_house_with_one_place(self):
        self.assertEqual(last([0, 1, 0], [1, 0, 0, 1, []]), [-3])

    def test_no_rates_where_the_horizon_is_nought(self):
        told = ask([0, 2, 0], [1, 1, 0, 20, []], [2, 1, 0, 4], [4], [5], [6, [0]], [7])
        self.assertEqual(told[1:], [[0, 0], [0, 4], [0, 0], [-4], [-4], [0, 0, 0, 4]])

    def test_spans_that_end_at_the_horizon_and_after_it(self):
        for span, out in ((1, 3), (3, 3), (4, 0), (20, 0)):
            told = ask(*lane(span=span), [4], [6, [3]], [6, [0]], [6, [0]], [7])
            self.assertEqual(told[3], [0, 1, 3])
            self.assertEqual(told[6:], [[0, 3, out], [0, 3, out, 3]])

    def test_span_that_ends_at_each_minute(self):
        for span in range(1, 9):
            told = ask(*lane(horizon=8, span=span), *[[5]] * 8)
            self.assertEqual(told[3:], [[0, t, 3 if t >= span else 0] for t in range(1, 9)])

    def test_rates_of_minutes_before_now_have_no_effect(self):
        told = ask([0, 2, 3], [2, 1, 0, 9], [5], [1, 1, 0, 1, [5, 1, 2]], [4], [5], [4], [5], [7])
        self.assertEqual(told[3:], [[0, 0], [0, 1, 1], [0, 2, 1], [0, 1, 2], [0, 3, 3], [0, 3, 3, 9]])

    def test_way_that_comes_later_is_used(self):
        told = ask(*lane(rate=1, people=9), [5], [1, 1, 0, 1, [5, 5, 5]], [4], [5])
        self.assertEqual(told[3:], [[0, 1, 1], [0, 1], [0, 2, 1, 5], [0, 2, 7]])

    def test_rate_nought_and_rate_five(self):
        told = ask([0, 2, 2], [1, 1, 0, 1, [0, 5]], [2, 1, 0, 9], [4], [6, [1]], [5], [4], [6, [6]], [6, [5]])
        self.assertEqual(told[3:], [[0, 1, 0], [-5], [0, 1, 0], [0, 1, 5], [-5], [0, 2, 5]])


class People(unittest.TestCase):
    def test_total(self):
        told = ask([0, 3, 2], [2, 1, 0, 1], [2, 2, 1, 4], [2, 0, 2, 24], [2, 1, 2, 1], [2, 1, 2, 1], [7])
        self.assertEqual(told[1:], [[0, 1], [0, 5], [0, 29], [0, 30], [-6], [0, 0, 0, 30]])

    def test_thirty_at_once(self):
        told = ask([0, 2, 0], [2, 1, 0, 30], [2, 1, 0, 1], [2, 1, 0, 30], [7])
        self.assertEqual(told[1:], [[0, 30], [-6], [-6], [0, 0, 0, 30]])

    def test_at_the_exit_now_they_are_out(self):
        told = ask([0, 2, 2], [2, 0, 0, 3], [7], [5], [7], [2, 0, 1, 2], [7], [5], [7])
        self.assertEqual(told[1:], [[0, 3], [0, 0, 3, 3], [0, 1, 3], [0, 1, 3, 3], [0, 5], [0, 1, 5, 5], [0, 2, 5],
                                    [0, 2, 5, 5]])

    def test_at_the_exit_later_they_are_out_then(self):
        told = ask([0, 1, 3], [2, 0, 2, 3], [2, 0, 3, 4], [7], [5], [6, []], [5], [7])
        self.assertEqual(told[3:], [[0, 0, 0, 7], [0, 1, 0], [0, 2, 3], [0, 3, 7], [0, 3, 7, 7]])

    def test_who_appears_now_can_enter_now(self):
        told = ask([0, 2, 2], [1, 1, 0, 1, [5, 5]], [5], [2, 1, 1, 4], [4], [5])
        self.assertEqual(told[2:], [[0, 1, 0], [0, 4], [0, 1, 4], [0, 2, 4]])

    def test_who_appears_later_enters_then(self):
        told = ask([0, 2, 3], [1, 1, 0, 1, [5] * 3], [2, 1, 1, 4], [4], [6, [1]], [5], [4], [5], [7])
        self.assertEqual(told[3:], [[0, 1, 0], [-5], [0, 1, 0], [0, 1, 4], [0, 2, 4], [0, 2, 4, 4]])

    def test_who_appears_at_the_horizon(self):
        told = ask([0, 2, 2], [1, 1, 0, 1, [5] * 2], [2, 1, 2, 4], [2, 0, 2, 2], [5], [5], [4], [7], [2, 0, 2, 3], [7])
        self.assertEqual(told[2:], [[0, 4], [0, 6], [0, 1, 0], [0, 2, 2], [0, 0], [0, 2, 2, 6], [0, 9], [0, 2, 5, 9]])

    def test_who_appears_when_now_is_the_horizon(self):
        told = ask([0, 2, 0], [2, 0, 0, 3], [2, 1, 0, 4], [7])
        self.assertEqual(told[1:], [[0, 3], [0, 7], [0, 0, 3, 7]])

    def test_people_on_ways_away_and_out_are_counted(self):
        build = [[0, 2, 3], [1, 1, 0, 1, [5] * 3], [1, 1, 0, 2, [5] * 3], [1, 1, 0, 20, [5] * 3], [2, 1, 0, 10]]
        told = ask(*build, [6, [1, 2, 3]], [7], [2, 1, 1, 20], [2, 1, 1, 1], [6, [0, 0, 0]], [2, 1, 2, 1], [7])
        self.assertEqual(told[5:], [[0, 1, 1], [0, 1, 1, 10], [0, 30], [-6], [0, 2, 3], [-6], [0, 2, 3, 30]])


class Rates(unittest.TestCase):
    def test_closes_and_widens(self):
        told = ask(*lane(rate=2, people=9), [3, 0, 0, 0], [4], [3, 0, 0, 5], [4], [5], [3, 0, 2, 0], [5], [4], [5])
        self.assertEqual(told[3:], [[0], [0, 1, 0], [0], [0, 1, 5], [0, 1, 5], [0], [0, 2, 7], [0, 1, 0], [0, 3, 7]])

    def test_only_this_way_and_minute(self):
        build = [[0, 2, 3], [1, 1, 0, 1, [1, 1, 1]], [1, 1, 0, 1, [1, 1, 1]], [2, 1, 0, 30]]
        told = ask(*build, [3, 1, 1, 4], [5], [4], [5], [4], [5])
        self.assertEqual(told[4:], [[0], [0, 1, 2], [0, 2, 1, 4], [0, 2, 7], [0, 2, 1, 1], [0, 3, 9]])

    def test_last_minute_before_the_horizon(self):
        self.assertEqual(last(*lane(), [3, 0, 2, 0]), [0])
        self.assertEqual(last(*lane(), [3, 0, 3, 0]), [-4])

    def test_people_who_entered_before_go_on(self):
        told = ask(*lane(span=2), [5], [3, 0, 1, 0], [3, 0, 2, 0], [5], [5])
        self.assertEqual(told[3:], [[0, 1, 0], [0], [0], [0, 2, 3], [0, 3, 3]])


class Orders(unittest.TestCase):
    def test_no_ways(self):
        told = ask([0, 3, 1], [2, 1, 0, 3], [4], [5], [4])
        self.assertEqual(told[2:], [[0, 0], [0, 1, 0], [0, 0]])

    def test_orders_change_nothing(self):
        self.assertEqual(ask(*lane(), [4], [4], [7], [4])[3:], [[0, 1, 3], [0, 1, 3], [0, 0, 0, 3], [0, 1, 3]])

    def test_none_when_now_is_the_horizon(self):
        self.assertEqual(ask(*lane(horizon=1), [4], [5], [4])[3:], [[0, 1, 3], [0, 1, 3], [0, 0]])

    def test_earlier_ways_come_first(self):
        ways = [[1, 1, 0, 1, [2]], [1, 1, 0, 1, [2]], [1, 1, 0, 1, [2]]]
        self.assertEqual(last([0, 2, 1], *ways, [2, 1, 0, 5], [4]), [0, 3, 2, 2, 1])
        self.assertEqual(last([0, 2, 1], *ways, [2, 1, 0, 3], [4]), [0, 3, 2, 1, 0])

    def test_first_way_gets_those_who_are_not_needed_elsewhere(self):
        build = [[0, 3, 2], [1, 1, 2, 1, [5, 5]], [1, 1, 0, 1, [2, 2]], [2, 1, 0, 6]]
        self.assertEqual(last(*build, [4]), [0, 2, 2, 2])
        self.assertEqual(last(*build, [5], [4]), [0, 2, 0, 2])

    def test_way_that_leads_nowhere_in_time_still_gets_people(self):
        build = [[0, 3, 2], [1, 1, 2, 20, [5, 5]], [1, 1, 0, 2, [3, 3]], [2, 1, 0, 9]]
        self.assertEqual(last(*build, [4]), [0, 2, 5, 3])
        self.assertEqual(last(*build, [5], [4]), [0, 2, 1, 0])

    def test_people_come_back_in_time(self):
        build = [[0, 3, 4], [1, 1, 2, 1, [5] * 4], [1, 2, 1, 1, [5] * 4], [1, 1, 0, 1, [0, 0, 0, 5]], [2, 1, 0, 5]]
        self.assertEqual(ask(*build, [4], [5], [4], [5], [5], [4], [5])[5:],
                         [[0, 3, 5, 0, 0], [0, 1, 0], [0, 3, 0, 5, 0], [0, 2, 0], [0, 3, 0], [0, 3, 0, 0, 5], [0, 4, 5]])

    def test_faster_round_about(self):
        build = [[0, 3, 3], [1, 2, 0, 3, [5] * 3], [1, 2, 1, 1, [1] * 3], [1, 1, 0, 1, [1] * 3], [2, 2, 0, 3]]
        told = ask(*build, [4], [5], [4], [5], [4], [5])
        self.assertEqual(told[5:], [[0, 3, 2, 1, 0], [0, 1, 0], [0, 3, 0, 0, 1], [0, 2, 1], [0, 3, 0, 0, 0], [0, 3, 3]])

    def test_everything_at_its_greatest(self):
        ways = [[1, 1 + k % 4, 0, 1 + k % 8, [5] * 8] for k in range(8)]
        people = [[2, place, 0, 6] for place in range(5)]
        told = ask([0, 5, 8], *ways, *people, *[[5]] * 8, [7])
        outs = [answer[2] for answer in told[14:22]]
        self.assertEqual(told[-1], [0, 8, 30, 30])
        self.assertEqual(outs, sorted(outs))
        self.assertEqual(outs[-1], 30)


class Following(unittest.TestCase):
    def test_as_many_enter_as_the_orders_say(self):
        build = [[0, 3, 4], [1, 1, 0, 1, [1] * 4], [1, 2, 1, 1, [2] * 4], [1, 2, 0, 3, [1] * 4], [2, 1, 0, 1]]
        build += [[2, 2, 0, 3]]
        told = last(*build, [4])
        after = [[4], [7], [5], [4], [5], [5], [7]]
        self.assertEqual(ask(*build, [5], *after), ask(*build, [6, told[2:]], *after))

    def test_up_to_the_horizon(self):
        told = ask(*lane(horizon=2, rate=1), [5], [5], [5], [7])
        self.assertEqual(told[3:], [[0, 1, 1], [0, 2, 2], [-4], [0, 2, 2, 3]])


class Walking(unittest.TestCase):
    def test_otherwise(self):
        told = ask(*lane(rate=2, people=9), [6, [1]], [6, [0]], [6, [2]], [7])
        self.assertEqual(told[3:], [[0, 1, 1], [0, 2, 1], [0, 3, 3], [0, 3, 3, 9]])

    def test_without_ways(self):
        self.assertEqual(ask([0, 2, 1], [2, 1, 0, 3], [6, []], [6, []])[2:], [[0, 1, 0], [-4]])

    def test_ways_share_the_people(self):
        build = [[0, 2, 2], [1, 1, 0, 1, [5, 5]], [1, 1, 0, 1, [5, 5]], [2, 1, 0, 6]]
        self.assertEqual(last(*build, [6, [5, 2]]), [-5])
        self.assertEqual(last(*build, [6, [2, 5]]), [-5])
        self.assertEqual(last(*build, [6, [5, 1]]), [0, 1, 6])
        self.assertEqual(last(*build, [6, [1, 5]]), [0, 1, 6])

    def test_who_arrives_enters_a_minute_later_only(self):
        build = [[0, 3, 3], [1, 2, 1, 1, [5] * 3], [1, 1, 0, 1, [5] * 3], [2, 2, 0, 2]]
        self.assertEqual(last(*build, [6, [2, 1]]), [-5])
        self.assertEqual(ask(*build, [6, [2, 0]], [6, [0, 3]], [6, [0, 2]])[4:], [[0, 1, 0], [-5], [0, 2, 2]])

    def test_people_who_are_away_do_not_come_back(self):
        build = [[0, 3, 2], [1, 1, 2, 3, [5, 5]], [1, 2, 0, 1, [5, 5]], [2, 1, 0, 5]]
        told = ask(*build, [6, [4, 0]], [6, [0, 1]], [6, [1, 0]], [7])
        self.assertEqual(told[4:], [[0, 1, 0], [-5], [0, 2, 0], [0, 2, 0, 5]])

    def test_who_waits_stays(self):
        told = ask(*lane(horizon=8, people=30), *[[6, [0]]] * 6, [4], [6, [5]], [6, [5]], [7])
        self.assertEqual(told[9:], [[0, 1, 5], [0, 7, 5], [0, 8, 10], [0, 8, 10, 30]])


class Status(unittest.TestCase):
    def test_each_minute(self):
        told = ask(*lane(rate=1), [7], [5], [7], [5], [7], [5], [7], [5], [7])
        self.assertEqual(told[3::2], [[0, 0, 0, 3], [0, 1, 1, 3], [0, 2, 2, 3], [0, 3, 3, 3], [0, 3, 3, 3]])


if __name__ == "__main__":
    unittest.main()

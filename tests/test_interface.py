"""emptying.house.answers: one list in, one list out; both examples of the document."""

import unittest

from asking import ask, flat, last
from emptying.house import answers

BIG = 10**18

FIRST = (
    "0 3 4 -> 0; 1 1 0 1 4 1 1 1 1 -> 0 0; 1 2 1 1 4 2 2 2 2 -> 0 1; 1 2 0 3 4 1 1 1 1 -> 0 2; 2 1 0 1 -> 0 1; "
    "2 2 0 3 -> 0 4; 12 -> 0 5 0 1 2 4 4; 4 -> 0 3 1 2 1; 13 3 -> 0 4 3 4 5 5; 13 2 -> 0 2 3 3 1 0; "
    "13 1 -> 0 1 3 2 1 0; 14 3 3 9 0 0 -> 0 4; 15 12 1 1 1 0 1 1 0 0 1 0 0 0 -> 0 5 0 1 2 4 4; "
    "15 12 2 0 0 0 0 0 0 0 0 0 0 0 -> -5; 5 -> 0 1 1; 8 -> 0 3 1 2 0; 9 0 -> 0 3 0 1 0; 12 -> 0 4 1 2 4 4; "
    "3 0 2 0 -> 0; 12 -> 0 4 1 2 3 4; 4 -> 0 3 1 0 0; 6 3 0 0 0 -> 0 2 1; 12 -> 0 3 1 2 3; 7 -> 0 2 1 4; "
    "13 4 -> 0 3 3 5 2 5; 1 0 1 1 4 0 0 0 0 -> -3; 2 1 1 1 -> -4; 5 -> 0 3 2; 5 -> 0 4 3; 5 -> -4; 4 -> 0 0"
)
SECOND = (
    "5 -> -2; 0 6 1 -> -1; 0 2 0 -> 0; 12 -> 0 1 0; 4 -> 0 0; 5 -> -4; 2 0 0 3 -> 0 3; 7 -> 0 0 3 3; "
    "13 0 -> 0 3 2 1 1; 2 1 0 30 -> -6; 0 2 2 -> 0; 1 1 0 3 2 5 5 -> 0 0; 2 1 0 2 -> 0 2; 12 -> 0 3 0 0 0; "
    "15 2 2 0 -> 0 3 0 0 0; 4 -> 0 1 2; 5 -> 0 1 0; 7 -> 0 1 0 2; 11 0 -> 0 1 5; 10 -> 0 1 1 0 3"
)


def example(text):
    """The one list to hand in and the one list that is to be answered."""
    calls = []
    told = []
    for part in text.split(";"):
        call, answer = part.split("->")
        calls += [int(word) for word in call.split()]
        told += [len(answer.split())] + [int(word) for word in answer.split()]
    return calls, told


class Unchanging(list):
    """A list that nothing can be done to but reading."""

    def refuse(self, *args, **keywords):
        raise AssertionError("what is handed in was changed")

    append = clear = extend = insert = pop = remove = reverse = sort = refuse
    __setitem__ = __delitem__ = __iadd__ = __imul__ = refuse


class Interface(unittest.TestCase):
    def test_first_example(self):
        calls, told = example(FIRST)
        self.assertEqual(answers(calls), told)

    def test_second_example(self):
        calls, told = example(SECOND)
        self.assertEqual(answers(calls), told)

    def test_both_examples_in_one_request(self):
        for one, other in ((FIRST, SECOND.replace("5 -> -2; ", "")), (SECOND, FIRST)):
            first, told_first = example(one)
            second, told_second = example(other)
            self.assertEqual(answers(first + second), told_first + told_second)

    def test_each_answer_has_its_length_ahead(self):
        calls = [0, 2, 1, 1, 1, 0, 1, 1, 5, 2, 1, 0, 3, 3, 0, 0, 2, 4, 7, 6, 1, 9, 6, 1, 1, 5]
        self.assertEqual(
            answers(calls),
            [1, 0, 2, 0, 0, 2, 0, 3, 1, 0, 3, 0, 1, 2, 4, 0, 0, 0, 3, 1, -5, 3, 0, 1, 1, 1, -4],
        )

    def test_what_is_handed_in_is_not_changed(self):
        for text in (FIRST, SECOND):
            calls, told = example(text)
            handed = list(calls)
            answers(handed)
            self.assertEqual(handed, calls)
            self.assertEqual(answers(Unchanging(calls)), told)

    def test_rates_that_change_stay_what_was_handed_in(self):
        calls = flat([[0, 2, 2], [1, 1, 0, 1, [1, 1]], [3, 0, 0, 5], [2, 1, 0, 3], [6, [3]]])
        handed = list(calls)
        self.assertEqual(answers(handed), [1, 0, 2, 0, 0, 1, 0, 2, 0, 3, 3, 0, 1, 3])
        self.assertEqual(handed, calls)

    def test_the_same_list_is_answered_the_same_again(self):
        for text in (FIRST, SECOND):
            calls, told = example(text)
            self.assertEqual([answers(calls) for _ in range(3)], [told] * 3)

    def test_nothing_is_kept_from_one_request_to_the_next(self):
        self.assertEqual(answers([0, 2, 1]), [1, 0])
        self.assertEqual(answers([7]), [1, -2])
        self.assertEqual(answers([0, 9, 9, 7]), [1, -1, 1, -2])

    def test_answers_are_plain_numbers_in_a_list(self):
        told = answers(example(FIRST)[0])
        self.assertIs(type(told), list)
        self.assertEqual({type(number) for number in told}, {int})

    def test_each_request_is_a_new_answer(self):
        told = answers([0, 1, 0])
        told.append(5)
        self.assertEqual(answers([0, 1, 0]), [1, 0])

    def test_one_call_and_eighty(self):
        self.assertEqual(answers([7]), [1, -2])
        self.assertEqual(ask([0, 1, 0], *[[7]] * 79), [[0]] + [[0, 0, 0, 0]] * 79)

    def test_longest_request(self):
        row = [-BIG] * 100
        for longest in ([6, row], [15, row], [14, -BIG, row], [1, BIG, BIG, BIG, row]):
            self.assertEqual(ask([0, 1, 1], *[longest] * 78, [7]), [[0]] + [[-1]] * 78 + [[0, 0, 0, 0]])

    def test_calls_that_only_ask_change_nothing(self):
        asked = [[8], [9, 1], [10], [11, 0], [12], [13, 1], [14, 0, [3, 0]], [14, 0, []], [15, [0, 1]], [15, [2, 2]]]
        asked += [[4], [7], [9, -BIG], [11, BIG], [13, -BIG], [14, BIG, [BIG] * 100], [15, [-BIG] * 100], [15, []]]
        for call in asked:
            told = ask(call, [0, 2, 2], [2, 1, 0, 4], [1, 1, 0, 1, [2, 2]], call, [7], [4], call, [5], call, [7])
            self.assertEqual(told[0], [-2])
            self.assertEqual(told[4], told[7])
            self.assertEqual(told[5:7], [[0, 0, 0, 4], [0, 1, 2]])
            self.assertEqual((told[8], told[10]), ([0, 1, 2], [0, 1, 2, 4]))

    def test_answers_of_calls_that_ask(self):
        calls = [0, 2, 1, 1, 1, 0, 1, 1, 2, 2, 1, 0, 3, 8, 9, 0, 10, 11, 0, 12, 13, 1, 14, 1, 2, 7, 1, 15, 1, 2, 15, 0]
        told = [1, 0, 2, 0, 0, 2, 0, 3, 4, 0, 2, 0, 3, 3, 0, 1, 0, 5, 0, 1, 1, 0, 1, 3, 0, 1, 2]
        told += [4, 0, 2, 0, 2, 5, 0, 2, 2, 2, 0, 2, 0, 3, 4, 0, 2, 0, 2, 1, -1]
        self.assertEqual(answers(calls), told)

    def test_most_orders_of_a_request(self):
        build = [[0, 2, 8], [1, 1, 0, 1, [5] * 8], [2, 1, 0, 30]]
        self.assertEqual(ask(*build, *[[5]] * 8, [7])[3:], [[0, t, min(30, 5 * t)] for t in range(1, 9)]
                         + [[0, 8, 30, 30]])
        self.assertEqual(last(*build, *[[4]] * 8), [0, 1, 5])


if __name__ == "__main__":
    unittest.main()

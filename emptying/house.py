"""A house: it answers the calls of a request, one behind another."""

from emptying.calls import CALL_BOUND, CALL_COMING, CALL_CUT, CALL_FOLLOW, CALL_GREATEST, CALL_HERE, CALL_OPEN
from emptying.calls import CALL_ORDERS, CALL_PEOPLE, CALL_RATE, CALL_RATES, CALL_STATUS, CALL_WALK, CALL_WAY, CALL_WAYS
from emptying.calls import split_calls
from emptying.limits import DONE, NOTHING_OPEN, WRONG_ARGUMENT
from emptying.operations import add_people, add_way, change_rate, follow_orders, new_building, walk_otherwise
from emptying.operations import tell_bound, tell_coming, tell_cut, tell_greatest, tell_here, tell_orders, tell_plan
from emptying.operations import tell_rates, tell_status, tell_ways


class House:
    """What is open: a building, or None at first."""

    def __init__(self):
        self.building = None

    def begin(self, places, horizon):
        """Operation 0."""
        building = new_building(places, horizon)
        if building is None:
            return [WRONG_ARGUMENT]
        self.building = building
        return [DONE]

    def answer(self, number, numbers, row):
        """Gives the answer of a call: its number, its whole numbers, its list."""
        if number == CALL_OPEN:
            return self.begin(numbers[0], numbers[1])
        if self.building is None:
            return [NOTHING_OPEN]
        if number in (CALL_WAY, CALL_PEOPLE, CALL_RATE):
            return self.answer_news(number, numbers, row)
        if number in (CALL_ORDERS, CALL_FOLLOW, CALL_WALK):
            return self.answer_minute(number, row)
        if number in (CALL_STATUS, CALL_HERE, CALL_COMING, CALL_WAYS, CALL_RATES):
            return self.answer_state(number, numbers)
        return self.answer_plans(number, numbers, row)

    def answer_news(self, number, numbers, row):
        """Gives the answer of a call that tells news of the building."""
        if number == CALL_WAY:
            return add_way(self.building, numbers[0], numbers[1], numbers[2], row)
        if number == CALL_PEOPLE:
            return add_people(self.building, numbers[0], numbers[1], numbers[2])
        return change_rate(self.building, numbers[0], numbers[1], numbers[2])

    def answer_minute(self, number, row):
        """Gives the answer of a call that asks for the orders, or goes on to the next minute."""
        if number == CALL_ORDERS:
            return tell_orders(self.building)
        if number == CALL_FOLLOW:
            return follow_orders(self.building)
        return walk_otherwise(self.building, row)

    def answer_state(self, number, numbers):
        """Gives the answer of a call that asks how the building is."""
        if number == CALL_STATUS:
            return tell_status(self.building)
        if number == CALL_HERE:
            return tell_here(self.building)
        if number == CALL_COMING:
            return tell_coming(self.building, numbers[0])
        if number == CALL_WAYS:
            return tell_ways(self.building)
        return tell_rates(self.building, numbers[0])

    def answer_plans(self, number, numbers, row):
        """Gives the answer of a call that asks how many can be out, or would be by a plan."""
        if number == CALL_GREATEST:
            return tell_greatest(self.building)
        if number == CALL_CUT:
            return tell_cut(self.building, numbers[0])
        if number == CALL_BOUND:
            return tell_bound(self.building, numbers[0], row)
        return tell_plan(self.building, row)


def answers(calls):
    """Gives, for each call of the list in order, how many numbers are answered, and these numbers."""
    house = House()
    told = []
    for number, numbers, row in split_calls(calls):
        answer = house.answer(number, numbers, row)
        told.append(len(answer))
        told.extend(answer)
    return told

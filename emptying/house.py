"""A house: it answers the calls of a request, one behind another."""

from emptying.calls import CALL_FOLLOW, CALL_OPEN, CALL_ORDERS, CALL_PEOPLE, CALL_RATE, CALL_STATUS, CALL_WALK, CALL_WAY
from emptying.calls import split_calls
from emptying.limits import DONE, NOTHING_OPEN, WRONG_ARGUMENT
from emptying.operations import add_people, add_way, change_rate, follow_orders, new_building
from emptying.operations import tell_orders, tell_status, walk_otherwise


class House:
    """What is open: a building, or None at first."""

    def __init__(self):
        self.building = None

    def begin(self, places, horizon):
        """Operation 0."""
        building = new_building(places, horizon)
        if building is None:
            return [WRONG_ARGUMENT]
        self.building = building
        return [DONE]

    def answer(self, number, numbers, row):
        """Gives the answer of a call: its number, its whole numbers, its list."""
        if number == CALL_OPEN:
            return self.begin(numbers[0], numbers[1])
        if self.building is None:
            return [NOTHING_OPEN]
        if number in (CALL_WAY, CALL_PEOPLE, CALL_RATE):
            return self.answer_news(number, numbers, row)
        return self.answer_minute(number, row)

    def answer_news(self, number, numbers, row):
        """Gives the answer of a call that tells news of the building."""
        if number == CALL_WAY:
            return add_way(self.building, numbers[0], numbers[1], numbers[2], row)
        if number == CALL_PEOPLE:
            return add_people(self.building, numbers[0], numbers[1], numbers[2])
        return change_rate(self.building, numbers[0], numbers[1], numbers[2])

    def answer_minute(self, number, row):
        """Gives the answer of a call that speaks of the minute now."""
        if number == CALL_ORDERS:
            return tell_orders(self.building)
        if number == CALL_FOLLOW:
            return follow_orders(self.building)
        if number == CALL_WALK:
            return walk_otherwise(self.building, row)
        if number == CALL_STATUS:
            return tell_status(self.building)
        # The calls 8 to 15 change nothing and are not answered yet.
        return [DONE]


def answers(calls):
    """Gives, for each call of the list in order, how many numbers are answered, and these numbers."""
    house = House()
    told = []
    for number, numbers, row in split_calls(calls):
        answer = house.answer(number, numbers, row)
        told.append(len(answer))
        told.extend(answer)
    return told

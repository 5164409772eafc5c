"""The plans of a building: how many are out by the best ones and by a given one, and the orders to begin with."""

from emptying.flow import Flow
from emptying.limits import EXIT_PLACE


def first_orders(building):
    """Gives the orders of the minute now, one number for each way, and none if now is the horizon."""
    flow = Flow(building)
    flow.send_out(building.horizon)
    orders = []
    for arc in flow.entering:
        orders.append(flow.enter_most(arc))
    return orders


def greatest_numbers(building):
    """Gives the greatest numbers for the minutes from now to the horizon."""
    greatest = [building.out()]
    over_ways = Flow(building).send_out(building.horizon)
    anyway = building.newly[EXIT_PLACE][building.now + 1:]
    for one, other in zip(over_ways, anyway):
        greatest.append(greatest[-1] + one + other)
    return greatest


def outs_by_plan(building, numbers):
    """Gives how many are out by each minute from now on by the plan, or None if it is not possible.

    The plan has for each way, one after the other, the numbers for the minutes from now to horizon - 1.
    """
    minutes = building.horizon - building.now
    walked = building.copied()
    outs = [walked.out()]
    for passed in range(minutes):
        entering = numbers[passed::minutes]
        if not walked.can_enter(entering):
            return None
        walked.advance(entering)
        outs.append(walked.out())
    return outs

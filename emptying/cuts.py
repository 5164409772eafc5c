"""Cuts of a building: what proves that no possible plan has more people out by a minute.

A cut is a list: one number for each place, the minute from which on the place is late.
"""

from emptying.flow import Flow
from emptying.limits import EXIT_PLACE


def cut_of_minute(building, minute):
    """Gives the cut of the minute."""
    flow = Flow(building)
    flow.send_out(minute)
    # Whoever could be at a place in addition, with as many out, cannot get out from there by the minute: else one more
    # would be out. In every cut with the least bound such a place is late then; no other one is in the cut with the
    # greatest numbers.
    return late_for(minute, flow.first_spare_minutes())


def bound_of_cut(building, minute, cut):
    """Gives the bound of the cut for the minute."""
    late_from = late_for(minute, cut)
    return building.gone + count_in_time(building, late_from) + add_rates_across(building, late_from)


def late_for(minute, cut):
    """Gives the cut with the exit late after the minute."""
    late_from = list(cut)
    late_from[EXIT_PLACE] = minute + 1
    return late_from


def count_in_time(building, late_from):
    """Counts who is at a place, now or newly at a later minute, while the place is not late."""
    return sum([sum(row[:late]) for row, late in zip(building.newly, late_from)])


def add_rates_across(building, late_from):
    """Adds the rates with which people can come from a late place to one that is not late when they reach it."""
    total = 0
    for way in building.ways:
        for minute in range(building.now, building.horizon):
            if minute >= late_from[way.origin] and minute + way.span < late_from[way.target]:
                total += way.rates[minute]
    return total

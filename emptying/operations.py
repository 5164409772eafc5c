"""The operations on a building: the errors of each, in the order in which the document lists them, and its answer."""

from emptying.building import Building, Way
from emptying.cuts import bound_of_cut, cut_of_minute
from emptying.limits import DONE, NO_SUCH_PLACE_OR_WAY, NOT_POSSIBLE, TOO_MANY, WRONG_ARGUMENT, WRONG_MINUTE
from emptying.limits import EXIT_PLACE, MOST_CUT_NUMBER, MOST_HORIZON, MOST_PEOPLE, MOST_PLACES, MOST_RATE, MOST_SPAN
from emptying.limits import MOST_WAYS
from emptying.plans import first_orders, greatest_numbers, outs_by_plan


def is_within(number, least, most):
    """Tells whether the number is from least to most."""
    return least <= number <= most


def are_within(numbers, least, most):
    """Tells whether every number is from least to most."""
    return all([is_within(number, least, most) for number in numbers])


def list_answer(numbers):
    """Gives the answer that tells a list."""
    return [DONE, len(numbers)] + numbers


def new_building(places, horizon):
    """Gives a new building, or None if an argument is out of range."""
    if is_within(places, 1, MOST_PLACES) and is_within(horizon, 0, MOST_HORIZON):
        return Building(places, horizon)
    return None


def can_lead(building, origin, target):
    """Tells whether a way can lead from origin to target."""
    if not building.has_place(origin) or not building.has_place(target):
        return False
    return origin != EXIT_PLACE and origin != target


def add_way(building, origin, target, span, rates):
    """Operation 1."""
    if not are_within(rates, 0, MOST_RATE) or not is_within(span, 1, MOST_SPAN) or len(rates) != building.horizon:
        return [WRONG_ARGUMENT]
    if not can_lead(building, origin, target):
        return [NO_SUCH_PLACE_OR_WAY]
    if len(building.ways) == MOST_WAYS:
        return [TOO_MANY]
    building.ways.append(Way(origin, target, span, rates))
    return [DONE, len(building.ways) - 1]


def add_people(building, place, minute, count):
    """Operation 2."""
    if not is_within(count, 1, MOST_PEOPLE):
        return [WRONG_ARGUMENT]
    if not building.has_place(place):
        return [NO_SUCH_PLACE_OR_WAY]
    if not is_within(minute, building.now, building.horizon):
        return [WRONG_MINUTE]
    if building.total() + count > MOST_PEOPLE:
        return [TOO_MANY]
    building.newly[place][minute] += count
    return [DONE, building.total()]


def change_rate(building, number, minute, value):
    """Operation 3."""
    if not is_within(value, 0, MOST_RATE):
        return [WRONG_ARGUMENT]
    if not building.has_way(number):
        return [NO_SUCH_PLACE_OR_WAY]
    if not is_within(minute, building.now, building.horizon - 1):
        return [WRONG_MINUTE]
    building.ways[number].rates[minute] = value
    return [DONE]


def tell_orders(building):
    """Operation 4."""
    return list_answer(first_orders(building))


def follow_orders(building):
    """Operation 5."""
    if building.now == building.horizon:
        return [WRONG_MINUTE]
    building.advance(first_orders(building))
    return [DONE, building.now, building.out()]


def walk_otherwise(building, numbers):
    """Operation 6."""
    if not are_within(numbers, 0, MOST_PEOPLE):
        return [WRONG_ARGUMENT]
    if building.now == building.horizon:
        return [WRONG_MINUTE]
    if len(numbers) != len(building.ways):
        return [WRONG_ARGUMENT]
    if not building.can_enter(numbers):
        return [NOT_POSSIBLE]
    building.advance(numbers)
    return [DONE, building.now, building.out()]


def tell_status(building):
    """Operation 7."""
    return [DONE, building.now, building.out(), building.total()]


def tell_here(building):
    """Operation 8."""
    return list_answer([row[building.now] for row in building.newly])


def tell_coming(building, place):
    """Operation 9."""
    if not building.has_place(place):
        return [NO_SUCH_PLACE_OR_WAY]
    return list_answer(building.newly[place][building.now + 1:])


def tell_ways(building):
    """Operation 10: its list has three numbers for each way, and ahead of them the number of ways."""
    told = [DONE, len(building.ways)]
    for way in building.ways:
        told.extend([way.origin, way.target, way.span])
    return told


def tell_rates(building, number):
    """Operation 11."""
    if not building.has_way(number):
        return [NO_SUCH_PLACE_OR_WAY]
    return list_answer(building.ways[number].rates[building.now:])


def tell_greatest(building):
    """Operation 12."""
    return list_answer(greatest_numbers(building))


def tell_cut(building, minute):
    """Operation 13."""
    if not is_within(minute, building.now, building.horizon):
        return [WRONG_MINUTE]
    cut = cut_of_minute(building, minute)
    return [DONE, bound_of_cut(building, minute, cut), len(cut)] + cut


def tell_bound(building, minute, cut):
    """Operation 14."""
    if not are_within(cut, 0, MOST_CUT_NUMBER) or len(cut) != building.places:
        return [WRONG_ARGUMENT]
    if not is_within(minute, building.now, building.horizon):
        return [WRONG_MINUTE]
    return [DONE, bound_of_cut(building, minute, cut)]


def tell_plan(building, numbers):
    """Operation 15."""
    wanted = len(building.ways) * (building.horizon - building.now)
    if not are_within(numbers, 0, MOST_PEOPLE) or len(numbers) != wanted:
        return [WRONG_ARGUMENT]
    outs = outs_by_plan(building, numbers)
    if outs is None:
        return [NOT_POSSIBLE]
    return list_answer(outs)

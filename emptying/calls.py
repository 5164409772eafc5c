"""The calls of a request: their numbers, and how they stand one behind another in its list."""

CALL_OPEN = 0
CALL_WAY = 1
CALL_PEOPLE = 2
CALL_RATE = 3
CALL_ORDERS = 4
CALL_FOLLOW = 5
CALL_WALK = 6
CALL_STATUS = 7
CALL_HERE = 8
CALL_COMING = 9
CALL_WAYS = 10
CALL_RATES = 11
CALL_GREATEST = 12
CALL_CUT = 13
CALL_BOUND = 14
CALL_PLAN = 15

# How many whole numbers stand behind the number of each call, from call 0 to call 15, and which calls have a list.
WHOLE_NUMBERS = (2, 3, 3, 3, 0, 0, 0, 0, 0, 1, 0, 1, 0, 1, 1, 0)
CALLS_WITH_LIST = (1, 6, 14, 15)


def split_calls(calls):
    """Gives each call as a tuple: its number, its whole numbers, its list (an empty one if the call has none)."""
    found = []
    start = 0
    while start < len(calls):
        number = calls[start]
        stop = start + 1 + WHOLE_NUMBERS[number]
        numbers = calls[start + 1:stop]
        row = []
        if number in CALLS_WITH_LIST:
            first = stop + 1
            stop = first + calls[stop]
            row = calls[first:stop]
        found.append((number, numbers, row))
        start = stop
    return found

"""Hands calls to the program, written one by one, and takes its answers apart."""

from emptying.house import answers


def flat(calls):
    """The one list of a request: a list within a call stands behind its length."""
    numbers = []
    for call in calls:
        for part in call:
            if isinstance(part, (list, tuple)):
                numbers.append(len(part))
                numbers.extend(part)
            else:
                numbers.append(part)
    return numbers


def apart(told):
    """The answers of a request, one list each."""
    found = []
    start = 0
    while start < len(told):
        stop = start + 1 + told[start]
        found.append(told[start + 1:stop])
        start = stop
    assert start == len(told)
    return found


def is_request(calls):
    """Whether the document lets so many calls be handed in at once."""
    numbers = [call[0] for call in calls]
    orders = numbers.count(4) + numbers.count(5)
    return 1 <= len(calls) <= 80 and numbers.count(0) <= 3 and orders <= 8 and numbers.count(12) + numbers.count(13) <= 12


def ask(*calls):
    """The answers of these calls, handed in as one request."""
    assert is_request(calls), calls
    found = apart(answers(flat(calls)))
    assert len(found) == len(calls), (calls, found)
    return found


def last(*calls):
    """The answer of the last one of these calls."""
    return ask(*calls)[-1]


def ask_each(build, questions):
    """The answers of the questions, which change nothing, each asked behind the calls of build.

    They are handed in as few by few as a request allows.
    """
    found = []
    start = 0
    while start < len(questions):
        stop = start + 1
        while stop < len(questions) and is_request(build + questions[start:stop + 1]):
            stop += 1
        found += ask(*build, *questions[start:stop])[len(build):]
        start = stop
    return found


def lane(horizon=3, rate=5, span=1, people=3):
    """The calls that open a house with people at place 1 and one way from it to the exit."""
    return [[0, 2, horizon], [1, 1, 0, span, [rate] * horizon], [2, 1, 0, people]]

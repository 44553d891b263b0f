"""The atlas as it is called: a list of calls in, a list of answers out."""

from starplaces.conversions import (
    angles_answer,
    date_answer,
    moment_answer,
    sidereal_answer,
    sines_answer,
)
from starplaces.session import Session

LOAD = 0
STAR = 1
FIND = 2
EXPORT = 3
PLACE = 4
HORIZON = 5
ECLIPTIC = 6
SEPARATION = 7
CONE = 8
MATCH = 9
DATE = 10
MOMENT = 11
SIDEREAL = 12
SINES = 13
# Behind these comes 14, angles. For each operation how many numbers it is
# given ahead of its row.
NUMBER_COUNTS = (0, 1, 0, 0, 2, 4, 2, 3, 5, 2, 1, 4, 1, 1, 2)


def has_row(operation):
    return operation in (LOAD, FIND, MATCH)


# For each call its operation, its numbers, and its row, empty if it has none.
def split_calls(calls):
    parts = []
    at = 0
    while at < len(calls):
        operation = calls[at]
        end = at + 1 + NUMBER_COUNTS[operation]
        numbers = calls[at + 1:end]
        row = []
        if has_row(operation):
            start = end + 1
            end = start + calls[end]
            row = calls[start:end]
        parts.append((operation, numbers, row))
        at = end
    return parts


def conversion_answer(operation, numbers):
    if operation == DATE:
        return date_answer(numbers[0])
    if operation == MOMENT:
        return moment_answer(numbers[0], numbers[1], numbers[2], numbers[3])
    if operation == SIDEREAL:
        return sidereal_answer(numbers[0])
    if operation == SINES:
        return sines_answer(numbers[0])
    return angles_answer(numbers[0], numbers[1])


def answer_to(session, operation, numbers, row):
    if operation == LOAD:
        return session.load(row)
    if operation == STAR:
        return session.describe(numbers[0])
    if operation == FIND:
        return session.search_name(row)
    if operation == EXPORT:
        return session.export()
    if operation == PLACE:
        return session.place(numbers[0], numbers[1])
    if operation == HORIZON:
        return session.horizon(numbers[0], numbers[1], numbers[2], numbers[3])
    if operation == ECLIPTIC:
        return session.ecliptic(numbers[0], numbers[1])
    if operation == SEPARATION:
        return session.separation(numbers[0], numbers[1], numbers[2])
    if operation == CONE:
        return session.cone(numbers[0], numbers[1], numbers[2], numbers[3], numbers[4])
    if operation == MATCH:
        return session.match_with(numbers[0], numbers[1], row)
    return conversion_answer(operation, numbers)


def answers(calls):
    session = Session()
    results = []
    for operation, numbers, row in split_calls(calls):
        result = answer_to(session, operation, numbers, row)
        results.append(len(result))
        results.extend(result)
    return results

"""The atlas as it is called: a list of calls in, a list of answers out."""

from starplaces.session import Session

LOAD = 0
STAR = 1
FIND = 2
EXPORT = 3
PLACE = 4
HORIZON = 5
ECLIPTIC = 6
SEPARATION = 7
# For each operation how many numbers it is given ahead of its row.
NUMBER_COUNTS = (0, 1, 0, 0, 2, 4, 2, 3)


def has_row(operation):
    return operation == LOAD or operation == FIND


# For each call its operation, its numbers, and its row, empty if it has none.
def split_calls(calls):
    parts = []
    at = 0
    while at < len(calls):
        operation = calls[at]
        end = at + 1 + NUMBER_COUNTS[operation]
        numbers = calls[at + 1:end]
        row = []
        if has_row(operation):
            start = end + 1
            end = start + calls[end]
            row = calls[start:end]
        parts.append((operation, numbers, row))
        at = end
    return parts


def answer_to(session, operation, numbers, row):
    if operation == LOAD:
        return session.load(row)
    if operation == STAR:
        return session.describe(numbers[0])
    if operation == FIND:
        return session.search_name(row)
    if operation == EXPORT:
        return session.export()
    if operation == PLACE:
        return session.place(numbers[0], numbers[1])
    if operation == HORIZON:
        return session.horizon(numbers[0], numbers[1], numbers[2], numbers[3])
    if operation == ECLIPTIC:
        return session.ecliptic(numbers[0], numbers[1])
    return session.separation(numbers[0], numbers[1], numbers[2])


def answers(calls):
    session = Session()
    results = []
    for operation, numbers, row in split_calls(calls):
        result = answer_to(session, operation, numbers, row)
        results.append(len(result))
        results.extend(result)
    return results

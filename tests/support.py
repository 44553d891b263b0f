"""What the tests share: calls as the interface takes them, answers one by one."""

from starplaces.atlas import answers

OPERATIONS = {
    "load": 0,
    "star": 1,
    "find": 2,
    "export": 3,
    "place": 4,
    "horizon": 5,
    "ecliptic": 6,
    "separation": 7,
    "cone": 8,
    "match": 9,
    "date": 10,
    "moment": 11,
    "sidereal": 12,
    "sines": 13,
    "angles": 14,
}

ONE_STAR = "a 00:00:00.000 +00:00:00.000 1 0 0"

# The last moment that is allowed; the first one is its opposite.
LAST = 10**10
WRONG_MOMENTS = (LAST + 1, -LAST - 1, 10**18, -10**18)


def as_bytes(text):
    """A text as the list of its bytes; a list is taken as it is."""
    return list(text) if isinstance(text, list) else [ord(sign) for sign in text]


def as_text(numbers):
    return "".join(chr(number) for number in numbers)


def flat(calls):
    """The calls, each a tuple of a name and what is given, as one list."""
    numbers = []
    for name, *given in calls:
        numbers.append(OPERATIONS[name])
        for value in given:
            if isinstance(value, int):
                numbers.append(value)
            else:
                row = as_bytes(value)
                numbers.append(len(row))
                numbers.extend(row)
    return numbers


def parted(results):
    """The list that answers gives, as one list for each call."""
    parts = []
    at = 0
    while at < len(results):
        end = at + 1 + results[at]
        parts.append(results[at + 1:end])
        at = end
    if at != len(results):
        raise AssertionError("the last answer is cut short")
    return parts


def ask(*calls):
    """The answers to calls of one session, one list for each."""
    parts = parted(answers(flat(calls)))
    if len(parts) != len(calls):
        raise AssertionError(f"{len(parts)} answers to {len(calls)} calls")
    return parts


def ask_last(*calls):
    """The answer to the last one of some calls."""
    return ask(*calls)[-1]


def load(text):
    """What a new session answers to the load of a text."""
    return ask_last(("load", text))


def exported(text):
    """The text that a catalogue is written as, once it was read."""
    length, *numbers = ask_last(("load", text), ("export",))
    if length != len(numbers):
        raise AssertionError("export tells a wrong length")
    return as_text(numbers)


def ask_each(calls, *first):
    """The answers to any number of calls, forty to a list, some calls ahead of each."""
    results = []
    step = 40 - len(first)
    for at in range(0, len(calls), step):
        results.extend(ask(*first, *calls[at:at + step])[len(first):])
    return results


def line(name="x", right_ascension="00:00:00.000", declination="+00:00:00.000",
         magnitude="1", motion="0", other_motion="0"):
    """A line of a catalogue, right but for what is handed in."""
    return " ".join([name, right_ascension, declination, magnitude, motion, other_motion])


def many_lines(count):
    """The lines of many stars, named s0, s1, ..."""
    return [line(f"s{i}") for i in range(count)]


def declinations(*sizes):
    """A text of stars at right ascension 0, some thousandths of a second from the equator."""
    lines = []
    for i, size in enumerate(sizes):
        sign = "-" if size < 0 else "+"
        lines.append(line(f"s{i}", declination=f"{sign}00:00:{abs(size) // 1000:02}.{abs(size) % 1000:03}"))
    return "\n".join(lines)


# For each kind of error a text that has it in its second line.
WRONG = {
    1: "\nx 00:00:00.000",
    2: "\n" + line(name="X"),
    3: "\n" + line(right_ascension="24:00:00.000"),
    4: "\n" + line(declination="+90:00:00.001"),
    5: "\n" + line(magnitude="1."),
    6: "\n" + line(motion="+1"),
    7: line() + "\n" + line(),
}

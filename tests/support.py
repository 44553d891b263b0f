"""What the tests share: calls as the interface takes them, answers one by one."""

from starplaces.atlas import answers

OPERATIONS = {
    "load": 0,
    "star": 1,
    "find": 2,
    "export": 3,
    "place": 4,
    "horizon": 5,
    "ecliptic": 6,
    "separation": 7,
}

ONE_STAR = "a 00:00:00.000 +00:00:00.000 1 0 0"


def as_bytes(text):
    """A text as the list of its bytes; a list is taken as it is."""
    return list(text) if isinstance(text, list) else [ord(sign) for sign in text]


def as_text(numbers):
    return "".join(chr(number) for number in numbers)


def flat(calls):
    """The calls, each a tuple of a name and what is given, as one list."""
    numbers = []
    for name, *given in calls:
        numbers.append(OPERATIONS[name])
        for value in given:
            if isinstance(value, int):
                numbers.append(value)
            else:
                row = as_bytes(value)
                numbers.append(len(row))
                numbers.extend(row)
    return numbers


def parted(results):
    """The list that answers gives, as one list for each call."""
    parts = []
    at = 0
    while at < len(results):
        end = at + 1 + results[at]
        parts.append(results[at + 1:end])
        at = end
    if at != len(results):
        raise AssertionError("the last answer is cut short")
    return parts


def ask(*calls):
    """The answers to calls of one session, one list for each."""
    parts = parted(answers(flat(calls)))
    if len(parts) != len(calls):
        raise AssertionError(f"{len(parts)} answers to {len(calls)} calls")
    return parts


def ask_last(*calls):
    """The answer to the last one of some calls."""
    return ask(*calls)[-1]


def load(text):
    """What a new session answers to the load of a text."""
    return ask_last(("load", text))


def exported(text):
    """The text that a catalogue is written as, once it was read."""
    length, *numbers = ask_last(("load", text), ("export",))
    if length != len(numbers):
        raise AssertionError("export tells a wrong length")
    return as_text(numbers)


def line(name="x", right_ascension="00:00:00.000", declination="+00:00:00.000",
         magnitude="1", motion="0", other_motion="0"):
    """A line of a catalogue, right but for what is handed in."""
    return " ".join([name, right_ascension, declination, magnitude, motion, other_motion])


def many_lines(count):
    """The lines of many stars, named s0, s1, ..."""
    return [line(f"s{i}") for i in range(count)]

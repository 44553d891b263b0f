"""The words of a catalogue's text: their forms and what they tell.

A word is a list of bytes.
"""

LINE_FEED = 10
SPACE = 32
MINUS = 45
POINT = 46
ZERO = 48
NINE = 57
SMALL_A = 97
SMALL_Z = 122
LONGEST_NAME = 12
SECOND_OF_TIME = 15
RIGHT_ANGLE = 324000000
ANGLE_FORM = "dd:dd:dd.ddd"
MAGNITUDE_FORMS = ("d", "d.d", "d.dd", "d.ddd", "dd", "dd.d", "dd.dd", "dd.ddd")
MOTION_FORMS = ("d", "dd", "ddd", "dddd", "ddddd")


def is_digit(byte):
    """Whether a byte is a digit."""
    return ZERO <= byte <= NINE


def is_small_letter(byte):
    """Whether a byte is a small letter."""
    return SMALL_A <= byte <= SMALL_Z


def fits(word, form):
    """Whether a word has a form, in which d stands for a digit."""
    if len(word) != len(form):
        return False
    for byte, sign in zip(word, form):
        if sign == "d":
            if not is_digit(byte):
                return False
        elif byte != ord(sign):
            return False
    return True


def number_of(digits):
    """The number that digits write."""
    number = 0
    for byte in digits:
        number = number * 10 + byte - ZERO
    return number


def without_minus(word):
    """The word behind its minus sign, if it begins with one."""
    if word[:1] == [MINUS]:
        return word[1:]
    return word


def with_sign_of(word, size):
    """The size, negative if the word begins with a minus sign."""
    if word[:1] == [MINUS]:
        return -size
    return size


def thousandths(word):
    """The thousandths of a second in a word of the form dd:dd:dd.ddd."""
    minutes = number_of(word[0:2]) * 60 + number_of(word[3:5])
    return (minutes * 60 + number_of(word[6:8])) * 1000 + number_of(word[9:12])


def is_sixtieths(word):
    """Whether a word is dd:dd:dd.ddd with minutes and seconds below 60."""
    return fits(word, ANGLE_FORM) and number_of(word[3:5]) < 60 and number_of(word[6:8]) < 60


def is_name(word):
    """Whether a word is the name of a star."""
    if not 1 <= len(word) <= LONGEST_NAME or not is_small_letter(word[0]):
        return False
    return all([is_small_letter(byte) or is_digit(byte) or byte == MINUS for byte in word])


def is_right_ascension(word):
    """Whether a word is a right ascension."""
    return is_sixtieths(word) and number_of(word[0:2]) < 24


def right_ascension_of(word):
    """The angle of a right ascension."""
    return thousandths(word) * SECOND_OF_TIME


def is_declination(word):
    """Whether a word is a declination."""
    if not (fits(word[:1], "+") or fits(word[:1], "-")):
        return False
    return is_sixtieths(word[1:]) and thousandths(word[1:]) <= RIGHT_ANGLE


def declination_of(word):
    """The angle of a declination."""
    return with_sign_of(word, thousandths(word[1:]))


def is_magnitude(word):
    """Whether a word is a magnitude."""
    size = without_minus(word)
    return any([fits(size, form) for form in MAGNITUDE_FORMS])


def magnitude_of(word):
    """The thousandths of a magnitude."""
    size = without_minus(word)
    if POINT not in size:
        return with_sign_of(word, number_of(size) * 1000)
    at = size.index(POINT)
    decimals = (size[at + 1:] + [ZERO, ZERO])[:3]
    return with_sign_of(word, number_of(size[:at] + decimals))


def is_motion(word):
    """Whether a word is a motion."""
    size = without_minus(word)
    return any([fits(size, form) for form in MOTION_FORMS])


def motion_of(word):
    """The angle in a year of a motion."""
    return with_sign_of(word, number_of(without_minus(word)))

"""The words of a catalogue's text: their forms and what they tell.

A word is a list of bytes.
"""

LINE_FEED = 10
SPACE = 32
MINUS = 45
POINT = 46
ZERO = 48
NINE = 57
SMALL_A = 97
SMALL_Z = 122
LONGEST_NAME = 12
SECOND_OF_TIME = 15
RIGHT_ANGLE = 324000000
ANGLE_FORM = "dd:dd:dd.ddd"
MAGNITUDE_FORMS = ("d", "d.d", "d.dd", "d.ddd", "dd", "dd.d", "dd.dd", "dd.ddd")
MOTION_FORMS = ("d", "dd", "ddd", "dddd", "ddddd")


def is_digit(byte):
    return ZERO <= byte <= NINE


def is_small_letter(byte):
    return SMALL_A <= byte <= SMALL_Z


# In a form d stands for a digit, and every other sign for itself.
def fits(word, form):
    if len(word) != len(form):
        return False
    for byte, sign in zip(word, form):
        if sign == "d":
            if not is_digit(byte):
                return False
        elif byte != ord(sign):
            return False
    return True


def number_of(digits):
    number = 0
    for byte in digits:
        number = number * 10 + byte - ZERO
    return number


def without_minus(word):
    if word[:1] == [MINUS]:
        return word[1:]
    return word


def with_sign_of(word, size):
    if word[:1] == [MINUS]:
        return -size
    return size


def thousandths(word):
    minutes = number_of(word[0:2]) * 60 + number_of(word[3:5])
    return (minutes * 60 + number_of(word[6:8])) * 1000 + number_of(word[9:12])


def is_sixtieths(word):
    return fits(word, ANGLE_FORM) and number_of(word[3:5]) < 60 and number_of(word[6:8]) < 60


def is_name(word):
    if not 1 <= len(word) <= LONGEST_NAME or not is_small_letter(word[0]):
        return False
    return all([is_small_letter(byte) or is_digit(byte) or byte == MINUS for byte in word])


def is_right_ascension(word):
    return is_sixtieths(word) and number_of(word[0:2]) < 24


def right_ascension_of(word):
    return thousandths(word) * SECOND_OF_TIME


def is_declination(word):
    if not (fits(word[:1], "+") or fits(word[:1], "-")):
        return False
    return is_sixtieths(word[1:]) and thousandths(word[1:]) <= RIGHT_ANGLE


def declination_of(word):
    return with_sign_of(word, thousandths(word[1:]))


def is_magnitude(word):
    size = without_minus(word)
    return any([fits(size, form) for form in MAGNITUDE_FORMS])


def magnitude_of(word):
    size = without_minus(word)
    if POINT not in size:
        return with_sign_of(word, number_of(size) * 1000)
    at = size.index(POINT)
    decimals = (size[at + 1:] + [ZERO, ZERO])[:3]
    return with_sign_of(word, number_of(size[:at] + decimals))


def is_motion(word):
    size = without_minus(word)
    return any([fits(size, form) for form in MOTION_FORMS])


def motion_of(word):
    return with_sign_of(word, number_of(without_minus(word)))

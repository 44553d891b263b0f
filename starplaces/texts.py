"""Texts of catalogues, as lists of bytes: read and written."""

from starplaces.error_codes import TEXT_ERROR, TEXT_NOT_ALLOWED
from starplaces.positions import Star
from starplaces.word_forms import (
    LINE_FEED,
    SECOND_OF_TIME,
    SPACE,
    declination_of,
    is_declination,
    is_magnitude,
    is_motion,
    is_name,
    is_right_ascension,
    magnitude_of,
    motion_of,
    right_ascension_of,
)

LONGEST_TEXT = 6000
LAST_BYTE = 126
MOST_STARS = 60
NUMBER_SIGN = 35


def is_allowed(text):
    if len(text) > LONGEST_TEXT:
        return False
    return all([byte == LINE_FEED or SPACE <= byte <= LAST_BYTE for byte in text])


# Empty parts count: a line without words has a number, too.
def parted(signs, separator):
    parts = []
    part = []
    for byte in signs:
        if byte == separator:
            parts.append(part)
            part = []
        else:
            part.append(byte)
    parts.append(part)
    return parts


def words_of(line):
    return [word for word in parted(line, SPACE) if len(word) > 0]


def is_ignored(words):
    return len(words) == 0 or words[0][0] == NUMBER_SIGN


# None if there is no such star.
def index_of_name(stars, name):
    for i, star in enumerate(stars):
        if star.name == name:
            return i
    return None


# The first error of a line that comes behind these stars; 0 if there is none.
def error_kind(words, stars):
    if len(words) != 6:
        return 1
    if not is_name(words[0]):
        return 2
    if not is_right_ascension(words[1]):
        return 3
    if not is_declination(words[2]):
        return 4
    if not is_magnitude(words[3]):
        return 5
    if not (is_motion(words[4]) and is_motion(words[5])):
        return 6
    if index_of_name(stars, words[0]) is not None:
        return 7
    if len(stars) >= MOST_STARS:
        return 8
    return 0


def star_of(words):
    motions = (motion_of(words[4]), motion_of(words[5]))
    return Star(
        words[0],
        right_ascension_of(words[1]),
        declination_of(words[2]),
        magnitude_of(words[3]),
        motions,
    )


# The fields of the error, none if the text is right, and the stars.
def read_catalogue(text):
    if not is_allowed(text):
        return ([-TEXT_NOT_ALLOWED], [])
    stars = []
    for number, line in enumerate(parted(text, LINE_FEED), start=1):
        words = words_of(line)
        if is_ignored(words):
            continue
        kind = error_kind(words, stars)
        if kind != 0:
            return ([-(TEXT_ERROR + kind), number], [])
        stars.append(star_of(words))
    return ([], stars)


def sign_before(number):
    if number < 0:
        return "-"
    return ""


def digits_of(number, width):
    return str(number).zfill(width)


def sixtieths(size):
    seconds = size // 1000
    hours = digits_of(seconds // 3600, 2)
    minutes = digits_of(seconds // 60 % 60, 2)
    rest = digits_of(seconds % 60, 2)
    decimals = digits_of(size % 1000, 3)
    return f"{hours}:{minutes}:{rest}.{decimals}"


def declination_text(declination):
    sign = sign_before(declination) or "+"
    return sign + sixtieths(abs(declination))


def magnitude_text(magnitude):
    size = abs(magnitude)
    return sign_before(magnitude) + str(size // 1000) + "." + digits_of(size % 1000, 3)


def star_line(star):
    numbers = [
        sixtieths(star.right_ascension // SECOND_OF_TIME),
        declination_text(star.declination),
        magnitude_text(star.magnitude),
        str(star.right_ascension_motion),
        str(star.declination_motion),
    ]
    behind_name = " " + " ".join(numbers) + "\n"
    return star.name + [ord(sign) for sign in behind_name]


def written_catalogue(stars):
    text = []
    for star in stars:
        text.extend(star_line(star))
    return text

"""The document's formulas once more, written for the tests alone.

Nothing of the program stands beneath it, and no short cut is taken: whatever
is compared with another separation is a separation, worked out for itself.
A star is a tuple: name, right ascension, declination, magnitude, motions.
"""

import math
import random

E = 10**18
Q = 324000000
TURN = 4 * Q


def series(a, first_n):
    x = a * 3141592653589793238 // 648000000
    y = x * x // E
    terms = [x if first_n == 2 else E]
    for n in range(first_n, first_n + 22, 2):
        terms.append(terms[-1] * y // E // (n * (n + 1)))
    return sum(terms[0::2]) - sum(terms[1::2])


def sine_and_cosine(a):
    q, r = divmod(a % TURN, Q)
    if 2 * r <= Q:
        s, c = series(r, 2), series(r, 1)
    else:
        s, c = series(Q - r, 1), series(Q - r, 2)
    return [(s, c), (c, -s), (-s, -c), (-c, s)][q]


def halve(holds, lo, hi):
    while hi - lo > 1:
        m = (lo + hi) // 2
        if holds(m):
            lo = m
        else:
            hi = m
    return lo


def arcsin(v):
    a = halve(lambda m: sine_and_cosine(m)[0] <= abs(v), 0, Q + 1)
    return a if v >= 0 else -a


def direction(x, y):
    def f(u, v):
        return halve(lambda m: sine_and_cosine(m)[0] * u <= v * sine_and_cosine(m)[1], 0, Q)

    if (x, y) == (0, 0):
        return 0
    if x > 0 and y >= 0:
        return f(x, y)
    if x <= 0 and y > 0:
        return Q + f(y, -x)
    if x < 0 and y <= 0:
        return 2 * Q + f(-x, -y)
    return 3 * Q + f(-y, x)


def vector(longitude, latitude):
    sin_l, cos_l = sine_and_cosine(longitude)
    sin_b, cos_b = sine_and_cosine(latitude)
    return (cos_b * cos_l // E, cos_b * sin_l // E, sin_b)


def turned_z(v, a):
    s, c = sine_and_cosine(a)
    return ((v[0] * c - v[1] * s) // E, (v[0] * s + v[1] * c) // E, v[2])


def turned_y(v, a):
    s, c = sine_and_cosine(a)
    return ((v[0] * c + v[2] * s) // E, v[1], (v[2] * c - v[0] * s) // E)


def place(star, t):
    p = 2306218 * t // 3155760000
    n = 2004311 * t // 3155760000
    v = vector(star[1] + star[4] * t // 31557600, star[2] + star[5] * t // 31557600)
    return turned_z(turned_y(turned_z(v, p), -n), p)


def separation(u, v):
    h = math.isqrt(sum((a - b) ** 2 for a, b in zip(u, v)))
    return 2 * arcsin(min(E, h // 2))


def cone(stars, longitude, latitude, radius, limit, t):
    """The answer to a cone, and nothing left out for the sake of speed."""
    point = vector(longitude, latitude)
    found = []
    for i, star in enumerate(stars):
        away = separation(place(star, t), point)
        if away <= radius and star[3] <= limit:
            found.append((away, i))
    return [len(found)] + [number for away, i in sorted(found) for number in (i, away)]


def match(stars, others, tolerance, t):
    """The answer to a match, from the whole table of separations."""
    places = [place(star, t) for star in stars]
    other_places = [place(star, t) for star in others]
    table = [[separation(u, v) for v in other_places] for u in places]
    matches = []
    for i in range(len(stars)):
        for j in range(len(others)):
            column = [row[j] for row in table]
            nearest = table[i].index(min(table[i])) == j and column.index(min(column)) == i
            if nearest and table[i][j] <= tolerance:
                matches.extend([i, j, table[i][j]])
    return [len(matches) // 3] + matches


def line(star):
    """A star as a line of a text; right ascensions are multiples of 15."""
    name, right_ascension, declination, magnitude, *motions = star

    def sixtieths(size):
        return f"{size // 3600000:02}:{size // 60000 % 60:02}:{size // 1000 % 60:02}.{size % 1000:03}"

    sign = "-" if declination < 0 else "+"
    size = f"{abs(magnitude) // 1000}.{abs(magnitude) % 1000:03}"
    words = [name, sixtieths(right_ascension // 15), sign + sixtieths(abs(declination)),
             ("-" if magnitude < 0 else "") + size, str(motions[0]), str(motions[1])]
    return " ".join(words)


def text(stars):
    return "".join(line(star) + "\n" for star in stars)


def some_stars(count, seed, spread=None):
    """Stars of the whole sky, or of a small field with its middle at (0, 0)."""
    source = random.Random(seed)
    stars = []
    for i in range(count):
        if spread is None:
            right_ascension = 15 * source.randrange(TURN // 15)
            declination = source.randrange(-Q, Q + 1)
        else:
            right_ascension = 15 * source.randrange(-spread, spread + 1) % TURN
            declination = source.randrange(-15 * spread, 15 * spread + 1)
        motions = (source.randrange(-9999, 10000), source.randrange(-9999, 10000))
        stars.append((f"s{i}", right_ascension, declination, source.randrange(-2000, 9000), *motions))
    return stars

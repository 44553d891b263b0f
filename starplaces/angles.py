"""Whole-number sines, cosines and the angles that belong to them.

An angle is a number of thousandths of an arc second; a sine, a cosine
or a coordinate is scaled, so that ONE stands for 1.
"""

ONE = 1000000000000000000
SCALED_PI = 3141592653589793238
TURN = 1296000000
HALF_TURN = 648000000
QUARTER = 324000000
TERM_COUNT = 12


# t1 - t2 + ... - t12; n is the lower factor by which t2 is divided.
def alternating_sum(first, y, n):
    total = 0
    term = first
    for k in range(TERM_COUNT):
        if k % 2 == 0:
            total += term
        else:
            total -= term
        divisor = n + 2 * k
        term = term * y // ONE // (divisor * (divisor + 1))
    return total


# S(a) of the document, for an angle from 0 to half a quarter.
def sine_series(a):
    x = a * SCALED_PI // HALF_TURN
    return alternating_sum(x, x * x // ONE, 2)


# C(a) of the document, for an angle from 0 to half a quarter.
def cosine_series(a):
    x = a * SCALED_PI // HALF_TURN
    return alternating_sum(ONE, x * x // ONE, 1)


# s(a) of the document, for an angle from 0 to below a quarter.
def quarter_sine(a):
    if 2 * a <= QUARTER:
        return sine_series(a)
    return cosine_series(QUARTER - a)


# c(a) of the document, for an angle from 0 to below a quarter.
def quarter_cosine(a):
    if 2 * a <= QUARTER:
        return cosine_series(a)
    return sine_series(QUARTER - a)


def sine(a):
    within = a % TURN
    quarter = within // QUARTER
    rest = within % QUARTER
    if quarter == 0:
        return quarter_sine(rest)
    if quarter == 1:
        return quarter_cosine(rest)
    if quarter == 2:
        return -quarter_sine(rest)
    return -quarter_cosine(rest)


def cosine(a):
    # In each quarter of the turn it is what the sine is a quarter later.
    return sine(a + QUARTER)


def halve(holds, low, high):
    lo = low
    hi = high
    while hi - lo > 1:
        middle = (lo + hi) // 2
        if holds(middle):
            lo = middle
        else:
            hi = middle
    return lo


def arcsin(v):
    size = abs(v)
    found = halve(lambda m: sine(m) <= size, 0, QUARTER + 1)
    if v < 0:
        return -found
    return found


# f(x, y) of the document.
def quarter_direction(x, y):
    return halve(lambda m: sine(m) * x <= y * cosine(m), 0, QUARTER)


def direction(x, y):
    if x == 0 and y == 0:
        return 0
    if x > 0 and y >= 0:
        return quarter_direction(x, y)
    if x <= 0 and y > 0:
        return QUARTER + quarter_direction(y, -x)
    if x < 0 and y <= 0:
        return 2 * QUARTER + quarter_direction(-x, -y)
    return 3 * QUARTER + quarter_direction(-y, x)

"""Rows of numbers in lowest terms, and fractions as tuples (points 4 and 5)."""


def divisor_of_two(one, other):
    while other != 0:
        rest = one % other
        one = other
        other = rest
    return one


def divisor(row):
    # Every number divides 0, so 0 leaves the other numbers' divisor as it is,
    # and it is the answer where there are no others.
    common = 0
    for number in row:
        common = divisor_of_two(common, abs(number))
    return common


def lowest(row):
    common = divisor(row)
    if common == 0:
        return list(row)
    return [number // common for number in row]


def fraction(top, bottom):
    common = divisor([top, bottom])
    # The bottom is told from 1 on, so the sign goes over to the top.
    if bottom < 0:
        common = -common
    return (top // common, bottom // common)


def added(one, other):
    top = one[0] * other[1] + other[0] * one[1]
    return fraction(top, one[1] * other[1])

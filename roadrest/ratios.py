"""Fractions as pairs (upper, lower) in lowest terms, the lower number above 0."""


def common_divisor(a, b):
    """The greatest number that divides both; a and b are 0 or more."""
    while b > 0:
        left = a % b
        a = b
        b = left
    return a


def common_multiple(a, b):
    """The least number that both divide; a and b are above 0."""
    return a // common_divisor(a, b) * b


def ratio(upper, lower):
    """The fraction upper / lower; lower is above 0."""
    divisor = common_divisor(abs(upper), lower)
    return (upper // divisor, lower // divisor)


def plus(first, second):
    """The two fractions together."""
    return ratio(first[0] * second[1] + second[0] * first[1], first[1] * second[1])


def times(first, second):
    """One fraction times the other."""
    return ratio(first[0] * second[0], first[1] * second[1])


def minus(first, second):
    """The first fraction less the second."""
    return plus(first, (-second[0], second[1]))


def divided(first, second):
    """The first fraction by the second, which is above 0."""
    return ratio(first[0] * second[1], first[1] * second[0])


def less(first, second):
    """Whether the first fraction is below the second."""
    return first[0] * second[1] < second[0] * first[1]

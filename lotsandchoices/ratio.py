"""Exact fractions: pairs of a numerator and a denominator above 0, in lowest terms."""

NOTHING = (0, 1)
ONE = (1, 1)


def greatest_divisor(first, second):
    """The greatest number that divides both; neither is below 0, and not both are 0."""
    while second != 0:
        rest = first % second
        first = second
        second = rest
    return first


def common_multiple(first, second):
    """The least number above 0 that both divide; both are above 0."""
    return first // greatest_divisor(first, second) * second


def lowest(over, under):
    """The fraction of a numerator and a denominator above 0."""
    shared = greatest_divisor(abs(over), under)
    return (over // shared, under // shared)


def plus(first, second):
    """The sum of two fractions."""
    return lowest(first[0] * second[1] + second[0] * first[1], first[1] * second[1])


def times(first, second):
    """The product of two fractions."""
    # Reduced crosswise before multiplying: along a deep course one side is long and the other short,
    # and a long number is divided quickly by a short one, but not two long ones by each other.
    falling = lowest(first[0], second[1])
    rising = lowest(second[0], first[1])
    return (falling[0] * rising[0], falling[1] * rising[1])


def divided(first, second):
    """The first fraction divided by the second, which is above 0."""
    return times(first, (second[1], second[0]))


def written(fraction):
    """The one form of a fraction."""
    over = fraction[0]
    under = fraction[1]
    return f"{over}" if under == 1 else f"{over}/{under}"

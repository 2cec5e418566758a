"""Numbers: tuples (n, d) of whole numbers in lowest terms (point 1)."""

from math import gcd

ZERO = (0, 1)
ONE = (1, 1)
SHORT_BELOW = 1000


def is_whole(value):
    """Return True if the value is a whole number; True and False are none."""
    return isinstance(value, int) and not isinstance(value, bool)


def is_position(value, many):
    """Return True if the value is a whole number from 0 to `many` less 1."""
    return is_whole(value) and 0 <= value < many


def is_number(value):
    """Return True if the value is a number of any size."""
    if not isinstance(value, tuple) or len(value) != 2:
        return False
    n, d = value
    return is_whole(n) and is_whole(d) and d >= 1 and gcd(n, d) == 1


def is_short(value):
    """Return True if the value is a short number."""
    return is_number(value) and abs(value[0]) < SHORT_BELOW and value[1] < SHORT_BELOW


def is_above_zero(number):
    """Return True if the number is greater than 0."""
    return number[0] > 0


def is_less(one, other):
    """Return True if the one number is less than the other one."""
    return one[0] * other[1] < other[0] * one[1]


def ratio(n, d):
    """Return the number that n divided by d is; d is at least 1."""
    common = gcd(n, d)
    return (n // common, d // common)


def sum_of(numbers):
    """Return the sum of the numbers."""
    total = ZERO
    for number in numbers:
        total = _plus(total, number)
    return total


def _plus(one, other):
    return ratio(one[0] * other[1] + other[0] * one[1], one[1] * other[1])


def difference_of(one, other):
    """Return the one number less the other one."""
    return _plus(one, (-other[0], other[1]))


def product_of(one, other):
    """Return the one number times the other one."""
    return ratio(one[0] * other[0], one[1] * other[1])


def inverse_of(number):
    """Return 1 divided by the number, which is greater than 0."""
    return (number[1], number[0])


def rest_to_one(number):
    """Return 1 less the number."""
    return (number[1] - number[0], number[1])


def greatest_of(numbers):
    """Return the greatest one of the numbers, of which there is at least one."""
    best, *others = numbers
    for number in others:
        if is_less(best, number):
            best = number
    return best


def least_of(numbers):
    """Return the least one of the numbers, of which there is at least one."""
    best, *others = numbers
    for number in others:
        if is_less(number, best):
            best = number
    return best


def mean_of(branches, numbers):
    """Return the sum of the chances of the branches times the numbers at their places."""
    return sum_of([product_of(chance, numbers[target]) for chance, target in branches])

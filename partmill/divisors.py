"""What numbers have in common, and how products are undone among rests."""


def common_divisor(one, other):
    """The greatest common divisor of two numbers from 1."""
    while other > 0:
        one, other = other, one % other
    return one


def inverse(modulus, number):
    """The number from 0 to below the modulus whose product with a number that shares nothing with it has the rest 1."""
    rest = modulus
    next_rest = number % modulus
    # Each factor, times the number, has the rest that it stands beside.
    factor = 0
    next_factor = 1
    while next_rest > 0:
        times = rest // next_rest
        rest, next_rest = next_rest, rest - times * next_rest
        factor, next_factor = next_factor, factor - times * next_factor
    return factor % modulus

"""Powers of whole numbers."""


def power(number, many):
    """A number to the power of many, from 0."""
    told = 1
    square = number
    while many > 0:
        if many % 2 == 1:
            told = told * square
        many = many // 2
        if many > 0:
            square = square * square
    return told


def power_rest(modulus, number, many):
    """The rest by the modulus, from 2, of a number to the power of many, from 0."""
    told = 1
    square = number % modulus
    while many > 0:
        if many % 2 == 1:
            told = told * square % modulus
        many = many // 2
        square = square * square % modulus
    return told


def power_rests(modulus, number, many):
    """The rests by the modulus, from 2, of so many powers of a number, from the power of 0 on."""
    told = [1]
    while len(told) < many:
        told.append(told[-1] * number % modulus)
    return told


def twos(least):
    """1, 2, 4 and on by twice, up to the first that is least or more."""
    told = [1]
    while told[-1] < least:
        told.append(2 * told[-1])
    return told

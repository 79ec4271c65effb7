"""Powers of whole numbers."""


def power(number, many):
    """A number to the power of many, from 0."""
    told = 1
    square = number
    while many > 0:
        if many % 2 == 1:
            told = told * square
        many = many // 2
        if many > 0:
            square = square * square
    return told


def power_rest(modulus, number, many):
    """The rest by the modulus, from 2, of a number to the power of many, from 0."""
    told = 1
    square = number % modulus
    while many > 0:
        if many % 2 == 1:
            told = told * square % modulus
        many = many // 2
        square = square * square % modulus
    return told

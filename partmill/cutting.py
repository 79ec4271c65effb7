"""How sizes are cut: in parts for the ways of a plan, unlike sizes in like ones."""


def part_sizes(n, p):
    """How many cells each of p parts of n cells has but the last one, and how many the last one has."""
    full = (n + p - 1) // p
    return full, n - (p - 1) * full


def points(p):
    """The whole numbers at which p parts have values."""
    return list(range(2 - p, p))


def like_blocks(n, m):
    """All (i, j, many): as many numbers of a strip of n from place i on as of one of m from place j on.

    Their products, each from place i + j on, come to the product of both strips.
    """
    blocks = []
    i = 0
    j = 0
    while n - i != m - j:
        many = min(n - i, m - j)
        blocks.append((i, j, many))
        if n - i > many:
            i += many
        else:
            j += many
    blocks.append((i, j, n - i))
    return blocks

"""How works are made: steps put one behind another."""


class Maker:
    """Puts steps to a work with n and m cells to begin with."""

    def __init__(self, n, m):
        self.n = n
        self.m = m
        self.steps = []

    def firsts(self):
        """The cells of the first strip."""
        return list(range(self.n))

    def seconds(self):
        """The cells of the second strip."""
        return list(range(self.n, self.n + self.m))

    def put(self, word, left, right):
        """Puts a step behind the others; the cell that it makes."""
        self.steps.append((word, left, right))
        return self.n + self.m + len(self.steps) - 1

    def together(self, cells):
        """The cell of the sum of one cell or more."""
        total = cells[0]
        for cell in cells[1:]:
            total = self.put("plus", total, cell)
        return total

    def laid(self, many, blocks):
        """So many outs of blocks (begin, cells), each laid from out begin on; what is beyond is left out."""
        places = [[] for place in range(many)]
        for begin, cells in blocks:
            for at, cell in enumerate(cells):
                if begin + at < many:
                    places[begin + at].append(cell)
        return [self.together(cells) for cells in places]

    def work(self, outs):
        """The work of all steps put so far, with these outs."""
        return self.n, self.m, tuple(self.steps), tuple(outs)

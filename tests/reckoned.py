"""Plans for tests, and the counts of their works, reckoned step by step as [10], [12] and [13] tell them."""

WORDS = ("times", "plus", "minus", "by", "part")


def cut_sizes(n, p):
    """h and l of [11]: h the least with p * h no less than n."""
    h = 0
    while p * h < n:
        h += 1
    return h, n - (p - 1) * h


def may_be_cut(n, p):
    return p in (2, 3, 4, 5) and cut_sizes(n, p)[1] >= 1


def some_ways(n):
    return [1] + [p for p in (2, 3, 4, 5) if may_be_cut(n, p)]


def some_plan(luck, many):
    return tuple(luck.choice(some_ways(n)) for n in range(1, many + 1))


def ones(many):
    return (1,) * many


def greatest_ways(many):
    return tuple(some_ways(n)[-1] for n in range(1, many + 1))


def with_top(below, n, p):
    """A plan just as long as n, with the way p there."""
    return below[:n - 1] + (p,)


class Counting:
    """Counts words; sizes that were counted once are kept."""

    def __init__(self, kind, plan):
        self.kind = kind
        self.plan = plan
        self.known = {}

    def of_all(self, n):
        if self.kind == "product":
            return {"times": n * n, "plus": (n - 1) * (n - 1)}
        return {"times": n * (n + 1) // 2, "plus": (n - 1) * (n - 2) // 2, "by": 2 * n - 3 if n > 1 else 0}

    def of(self, n):
        if n not in self.known:
            p = self.plan[n - 1]
            self.known[n] = self.of_all(n) if p == 1 else self.of_parts(n, p)
        return self.known[n]

    def of_parts(self, n, p):
        h, l = cut_sizes(n, p)
        xs = range(2 - p, p)
        found = dict.fromkeys(WORDS, 0)

        def put(word, many):
            found[word] += many

        for strip in range(2 if self.kind == "product" else 1):
            for x in xs:
                if x == 0:
                    continue
                r = l
                for other_part in range(p - 1):
                    if x == -1:
                        put("minus", r)
                    else:
                        put("plus", r)
                    if x not in (1, -1):
                        put("by", r)
                    r = h
        for size in [h] * (2 * p - 2) + [l]:
            for word, many in self.of(size).items():
                put(word, many)
        for x in xs:
            if x != 0:
                put("minus", 2 * l - 1)
            if x not in (-1, 0, 1):
                put("by", 2 * l - 1)
        row = list(xs)
        for k in range(1, 2 * p - 2):
            row = row[:-1]
            put("minus", len(row) * (2 * h - 1))
            if k > 1:
                put("part", len(row) * (2 * h - 1))
        cs = 1
        for x in range(p - 2, 1 - p, -1):
            if x == -1:
                put("plus", cs * (2 * h - 1))
            elif x != 0:
                put("minus", cs * (2 * h - 1))
            if x not in (-1, 0, 1):
                put("by", cs * (2 * h - 1))
            cs += 1
        places = [0] * (2 * n - 1)
        for i in range(2 * p - 1):
            for at in range(2 * h - 1 if i < 2 * p - 2 else 2 * l - 1):
                if i * h + at < 2 * n - 1:
                    places[i * h + at] += 1
        put("plus", sum(many - 1 for many in places))
        return found


def as_count(found):
    return tuple(found.get(word, 0) for word in WORDS)


def square_count(plan, n):
    return as_count(Counting("square", plan).of(n))


def through_count(plan, n):
    times, plus, minus, by, part = (2 * many for many in square_count(plan, n))
    return (times, plus + n, minus + n + 2 * n - 1, by, part + 2 * n - 1)


def product_count(plan, n, m, counting=None):
    """The count of work_of, the greater size led to the rest of it over and over."""
    counting = counting or Counting("product", plan)
    total = [0] * 5
    while True:
        n, m = max(n, m), min(n, m)
        total = [old + new for old, new in zip(total, as_count(counting.of(m)))]
        if n == m:
            return tuple(total)
        total[1] += m - 1
        n -= m

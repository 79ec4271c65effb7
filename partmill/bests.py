"""The best plans: at each size the cheapest way, smaller sizes being done by the plan."""

from partmill.costs import own_count, smaller_sizes
from partmill.plans import ways


def price_of(prices, count):
    """What a count costs."""
    return sum([many * price for many, price in zip(count, prices)])


def way_cost(kind, prices, costs, n, p):
    """What the way p costs at n, the sizes below n costing what costs tells."""
    smaller = [many * costs[size - 1] for many, size in smaller_sizes(n, p)]
    return sum(smaller) + price_of(prices, own_count(kind, n, p))


def best(kind, prices, most):
    """The cheapest plan of most sizes, of ways that cost the same the least, and what each size costs."""
    plan = []
    costs = []
    for n in range(1, most + 1):
        cost, way = min([(way_cost(kind, prices, costs, n, p), p) for p in ways(n)])
        plan.append(way)
        costs.append(cost)
    return tuple(plan), tuple(costs)

"""The looker of tables: takes a plan and its costs only where no plan costs less at any size."""

from partmill.bests import way_cost
from partmill.kinds import is_whole
from partmill.plans import is_plan, ways


def is_best_at(kind, prices, plan, costs, n):
    """Whether costs tells at n what the plan's way costs, and no way that n may have costs less."""
    told = costs[n - 1]
    if told != way_cost(kind, prices, costs, n, plan[n - 1]):
        return False
    return all(way_cost(kind, prices, costs, n, p) >= told for p in ways(n))


def shows_best(kind, prices, plan, costs):
    """Whether two things are a plan and its costs, at each size the least ones."""
    if not is_plan(plan) or not isinstance(costs, tuple) or len(costs) != len(plan):
        return False
    if not all(is_whole(cost) for cost in costs):
        return False
    return all(is_best_at(kind, prices, plan, costs, n) for n in range(1, len(plan) + 1))

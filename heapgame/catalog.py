"""Contracts beside one another: better ones, the hardest ones, and the least sizes with which the manager wins."""

from heapgame.games import required_size


def is_better(one, other):
    """Tell whether a contract is better for the manager than another one, or as good."""
    if one.size < other.size or one.budget < other.budget or one.limit > other.limit:
        return False
    return all([length in other.lengths for length in one.lengths])


def hardest(contracts):
    """List the places of the contracts that are not better than another one that is not better than them."""
    return [place for place, contract in enumerate(contracts) if _is_hardest(contract, contracts)]


def single_size(limit, length):
    """Return how many cells the blocks of a single length can take at once."""
    return length * (limit // length)


def sizes(limits, lengths, budgets, most):
    """List for each limit the least sizes for the budgets; None for a size that would be greater than the most."""
    return [[required_size(limit, lengths, budget, most) for budget in budgets] for limit in limits]


def saved(limit, lengths, budget, most):
    """Return how many cells a budget saves, or None where one of both least sizes is None."""
    without_budget, with_budget = sizes([limit], lengths, [0, budget], most)[0]
    if without_budget is None or with_budget is None:
        return None
    return without_budget - with_budget


def _is_hardest(contract, contracts):
    return all([is_better(other, contract) for other in contracts if is_better(contract, other)])

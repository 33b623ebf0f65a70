"""Which indexes are outdone by others."""


def outdone_indexes(costs):
    """The indexes that are outdone: each as a tuple of its number and that of the first one that outdoes it."""
    numbers = list(range(len(costs.rooms)))
    found = []
    for number in numbers:
        outdoing = [other for other in numbers if other != number and outdoes(costs, other, number)]
        if outdoing:
            found.append((number, outdoing[0]))
    return found


def outdoes(costs, other, number):
    """Whether the other index outdoes the one of this number."""
    if not serves_as_much(costs, other, number):
        return False
    others = compared_costs(costs, other, number)
    own = compared_costs(costs, number, number)
    if any([theirs > ours for theirs, ours in zip(others, own)]):
        return False
    # No cost is more here, so unlike means that some are less.
    return others != own or not serves_as_much(costs, number, other) or other < number


def serves_as_much(costs, other, number):
    """Whether the other index serves all questions that the one of this number serves."""
    return all([other in by_index for by_index in costs.index_costs if number in by_index])


def compared_costs(costs, one, number):
    """What one index costs for the questions that the index of this number serves, its upkeep, its room."""
    askings = [by_index[one] for by_index in costs.index_costs if number in by_index]
    return askings + [costs.upkeeps[one], costs.rooms[one]]

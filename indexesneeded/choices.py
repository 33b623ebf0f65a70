"""Sets of indexes: what they cost, what room they take, which of them cost least."""

from indexesneeded.model import index_room
from indexesneeded.ways import index_way, serves, table_way
from indexesneeded.writes import upkeep


class Costs:
    """All that the cost of sets is made of.

    For each question how often it's asked, what one asking costs by the whole table, and what it costs by each
    index that serves it, by the index's number; for each index its upkeep and its room.
    """

    def __init__(self, oftens, table_costs, index_costs, upkeeps, rooms):
        self.oftens = oftens
        self.table_costs = table_costs
        self.index_costs = index_costs
        self.upkeeps = upkeeps
        self.rooms = rooms


def costs_of(model, writes):
    """The costs that the model's sets are made of."""
    return Costs(
        [question.often for question in model.questions],
        [table_way(model.groups, question).cost for question in model.questions],
        [costs_by_index(model, question) for question in model.questions],
        [upkeep(index, writes) for index in model.indexes],
        [index_room(index, model.groups) for index in model.indexes],
    )


def costs_by_index(model, question):
    """What one asking costs by each index that serves the question, by the index's number."""
    costs = {}
    for number, index in enumerate(model.indexes):
        if serves(index, question):
            costs[number] = index_way(model.groups, question, number, index).cost
    return costs


def costs_with(costs, oftens):
    """The same costs, but with the questions asked so often."""
    return Costs(oftens, costs.table_costs, costs.index_costs, costs.upkeeps, costs.rooms)


def one_asking_cost(costs, question, chosen):
    """What one asking of the question of this number costs by its best way with the set."""
    by_index = costs.index_costs[question]
    return min([costs.table_costs[question]] + [by_index[number] for number in chosen if number in by_index])


def askings_cost(costs, chosen):
    """What all askings of all questions cost with the set."""
    return sum([often * one_asking_cost(costs, question, chosen) for question, often in enumerate(costs.oftens)])


def upkeep_cost(costs, chosen):
    """The upkeep of the set's indexes."""
    return sum([costs.upkeeps[number] for number in chosen])


def set_room(costs, chosen):
    """The room of the set's indexes together."""
    return sum([costs.rooms[number] for number in chosen])


def set_cost(costs, chosen):
    """What the set costs."""
    return askings_cost(costs, chosen) + upkeep_cost(costs, chosen)


def rises_below(chosen, count):
    """Whether the numbers rise, and each is one of so many indexes."""
    last = -1
    for number in chosen:
        if number <= last or number >= count:
            return False
        last = number
    return True


def ordered_sets(count):
    """All sets of so many indexes, in order."""
    sets = [[]]
    for number in range(count):
        sets = sets + [chosen + [number] for chosen in sets]
    return sorted(sets, key=lambda chosen: (len(chosen), chosen))


def sets_within(costs, room):
    """All sets within the room, in order; the first one is that of no index."""
    return [chosen for chosen in ordered_sets(len(costs.rooms)) if set_room(costs, chosen) <= room]


def cheapest(costs, sets):
    """Those of the sets that cost least, as they stand; empty only if there are no sets."""
    found = []
    least_cost = 0
    for chosen in sets:
        cost = set_cost(costs, chosen)
        if not found or cost < least_cost:
            found = []
            least_cost = cost
        if cost == least_cost:
            found.append(chosen)
    return found


def least_sets(costs, room):
    """The least sets within the room, in order."""
    return cheapest(costs, sets_within(costs, room))


def kept_sets(costs, room, question, most):
    """The cheapest of those sets within the room with which one asking of the question costs no more than most."""
    keeping = [chosen for chosen in sets_within(costs, room) if one_asking_cost(costs, question, chosen) <= most]
    return cheapest(costs, keeping)


def worth_with(costs, number, chosen):
    """How much more all askings cost with the set without the index than with the set and it."""
    without = [other for other in chosen if other != number]
    return askings_cost(costs, without) - askings_cost(costs, without + [number])

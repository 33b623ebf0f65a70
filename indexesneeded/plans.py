"""What to build, and when: plans of a set for each day."""

from indexesneeded.choices import costs_with, set_cost, set_room, sets_within


class Plans:
    """Plans for some days that cost the same: what each costs, how many there are, the first one's sets."""

    def __init__(self, cost, how_many, sets):
        self.cost = cost
        self.how_many = how_many
        self.sets = sets


def least_plans(costs, days, room):
    """The least plans for the days, each of which tells how often the questions are asked."""
    sets = sets_within(costs, room)
    # From the last day on backwards, for each set of the day before.
    plans = [Plans(0, 1, []) for chosen in sets]
    for oftens in reversed(days):
        by_set = [with_day(costs_with(costs, oftens), chosen, later) for chosen, later in zip(sets, plans)]
        plans = [least_behind(costs, before, by_set) for before in sets]
    # Ahead of the first day there are no indexes, and that set is the first one.
    return plans[0]


def with_day(day_costs, chosen, later):
    """The later days' plans with the set's day ahead of them, what it costs to build it left out."""
    return Plans(set_cost(day_costs, chosen) + later.cost, later.how_many, [chosen] + later.sets)


def least_behind(costs, before, by_set):
    """The least ones of all these plans, behind a day with the set before."""
    least = None
    for plans in by_set:
        cost = plans.cost + building_cost(costs, before, plans.sets[0])
        if least is None or cost < least.cost:
            least = Plans(cost, plans.how_many, plans.sets)
        elif cost == least.cost:
            # What comes first in order came first here too.
            least = Plans(cost, least.how_many + plans.how_many, least.sets)
    return least


def building_cost(costs, before, chosen):
    """What it costs to build those indexes of the set that aren't in the set of the day before."""
    return set_room(costs, [number for number in chosen if number not in before])

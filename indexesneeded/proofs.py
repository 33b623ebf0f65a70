"""Proofs that no set within a room costs less than a told cost."""

from indexesneeded.choices import askings_cost, set_room, upkeep_cost

SPLIT = 0
BOUND = 1
ROOM = 2


def room_holds(costs, room, chosen):
    """Whether the chosen indexes take more than the room."""
    return set_room(costs, chosen) > room


def bound_holds(costs, told_cost, looked_at, chosen):
    """Whether no set costs less than told that has the chosen ones and no others of the first so many looked at."""
    open_ones = list(range(looked_at, len(costs.rooms)))
    return told_cost <= askings_cost(costs, chosen + open_ones) + upkeep_cost(costs, chosen)


def made_proof(costs, room, least_cost):
    """The proof that's made for the least cost, as numbers."""
    proof = []
    waiting = [(0, [])]
    while waiting:
        place = waiting.pop()
        looked_at = place[0]
        chosen = place[1]
        if room_holds(costs, room, chosen):
            proof.append(ROOM)
        elif bound_holds(costs, least_cost, looked_at, chosen):
            proof.append(BOUND)
        else:
            proof.append(SPLIT)
            # What is put last is read first: the part with the index chosen.
            waiting.append((looked_at + 1, chosen))
            waiting.append((looked_at + 1, chosen + [looked_at]))
    return proof

"""Proofs that no set within a room costs less than a told cost."""

from indexesneeded.choices import askings_cost, set_room, upkeep_cost

SPLIT = 0
BOUND = 1
ROOM = 2
DEEPEST_SPLITS = 9


def room_holds(costs, room, chosen):
    """Whether the chosen indexes take more than the room."""
    return set_room(costs, chosen) > room


def bound_holds(costs, told_cost, looked_at, chosen):
    """Whether no set costs less than told that has the chosen ones and no others of the first so many looked at."""
    open_ones = list(range(looked_at, len(costs.rooms)))
    return told_cost <= askings_cost(costs, chosen + open_ones) + upkeep_cost(costs, chosen)


def parts_of_split(looked_at, chosen):
    """The places of a split's two parts; the last one is read first, the one with the index chosen."""
    return [(looked_at + 1, chosen), (looked_at + 1, chosen + [looked_at])]


def made_proof(costs, room, least_cost):
    """The proof that's made for the least cost, as numbers."""
    proof = []
    waiting = [(0, [])]
    while waiting:
        place = waiting.pop()
        looked_at = place[0]
        chosen = place[1]
        if room_holds(costs, room, chosen):
            proof.append(ROOM)
        elif bound_holds(costs, least_cost, looked_at, chosen):
            proof.append(BOUND)
        else:
            proof.append(SPLIT)
            waiting.extend(parts_of_split(looked_at, chosen))
    return proof


def is_proof(told):
    """Whether the numbers are a whole proof, with splits no deeper in one another than they may stand."""
    # For each part that is still to come, in how many splits it stands.
    waiting = [0]
    for number in told:
        if not waiting or number not in (SPLIT, BOUND, ROOM):
            return False
        depth = waiting.pop()
        if number == SPLIT:
            if depth == DEEPEST_SPLITS:
                return False
            waiting.append(depth + 1)
            waiting.append(depth + 1)
    return not waiting


def is_accepted(costs, room, told_cost, proof):
    """Whether the proof, which is a whole one, is accepted for the told cost."""
    waiting = [(0, [])]
    for number in proof:
        place = waiting.pop()
        looked_at = place[0]
        chosen = place[1]
        if number == SPLIT:
            if looked_at == len(costs.rooms):
                return False
            waiting.extend(parts_of_split(looked_at, chosen))
        elif number == BOUND and not bound_holds(costs, told_cost, looked_at, chosen):
            return False
        elif number == ROOM and not room_holds(costs, room, chosen):
            return False
    return True

"""Made-up texts, answered a second time row by row as the words tell it."""

import fractions
import itertools
import unittest

from tests.helper import (
    answer, candidates, check, day, kept, last, least, load, make, margin, outdone, plan, prove, room, run, total, way,
    worth, write,
)

COLUMNS = "abcd"
WORLDS = 120


class Numbers:
    """A fixed row of numbers that look mixed."""

    def __init__(self, seed):
        self.state = seed * 7919 + 17

    def below(self, end):
        self.state = (self.state * 6364136223846793005 + 1442695040888963407) % 2 ** 64
        return (self.state >> 33) % end

    def some(self, things, most):
        left = list(things)
        count = self.below(min(most, len(left)) + 1)
        return [left.pop(self.below(len(left))) for turn in range(count)]


def made_filter(numbers, column):
    low = numbers.below(3)
    return (column, low, low + numbers.below(3) * numbers.below(2))


def made_world(numbers):
    width = 1 + numbers.below(4)
    columns = range(width)
    kinds = list(itertools.product(range(3), repeat=width))
    groups = [(values, 1 + numbers.below(4)) for values in numbers.some(kinds, 12)]
    questions = []
    for turn in range(numbers.below(7)):
        filters = [made_filter(numbers, column) for column in numbers.some(columns, 3)]
        order = numbers.some(columns, 3)
        back = bool(order) and numbers.below(2) == 1
        limit = numbers.below(9) * numbers.below(2)
        questions.append((filters, order, back, numbers.some(columns, 2), limit, numbers.below(5)))
    indexes = []
    for turn in range(numbers.below(9)):
        own = numbers.some(columns, 4) or [0]
        split = 1 + numbers.below(len(own))
        condition = made_filter(numbers, numbers.below(width)) if numbers.below(3) == 0 else None
        indexes.append((own[:split], own[split:], condition))
    return width, groups, questions, indexes


def written_columns(columns):
    return ", ".join([COLUMNS[column] for column in columns])


def written_filter(told):
    column, low, high = told
    return f"{COLUMNS[column]} = {low}" if low == high else f"{COLUMNS[column]} from {low} to {high}"


def written(world):
    width, groups, questions, indexes = world
    lines = [f"table({written_columns(range(width))});"]
    lines += [f"row {','.join(map(str, values))} times {rows};" for values, rows in groups]
    for number, (filters, order, back, wanted, limit, often) in enumerate(questions):
        lines.append(f"ask q{COLUMNS[number // 4]}{COLUMNS[number % 4]}")
        lines.append("where " + " and ".join(map(written_filter, filters)) if filters else "")
        lines.append("by " + written_columns(order) if order else "")
        lines.append("back" if back else "")
        lines.append("wants " + written_columns(wanted) if wanted else "")
        lines.append(f"first {limit}" if limit else "")
        lines.append(f"times {often};" if often != 1 else ";")
    for number, (keys, included, condition) in enumerate(indexes):
        lines.append(f"index i{COLUMNS[number // 4]}{COLUMNS[number % 4]} on {written_columns(keys)}")
        lines.append("with " + written_columns(included) if included else "")
        lines.append("only " + written_filter(condition) if condition else "")
        lines.append(";")
    return "\n".join([line for line in lines if line])


def passing(row, filters):
    return all(low <= row[column] <= high for column, low, high in filters)


def done(rows, question, look_up, free):
    """Row by row: touched, looked up, sorted."""
    filters, order, back, wanted, limit, often = question
    touched = looked_up = found = 0
    for row in rows:
        touched += 1
        looked_up += look_up(row)
        found += passing(row, filters)
        if free and limit and found == limit:
            break
    return touched, looked_up, 0 if free else found


def by_table(rows, question):
    filters, order = question[:2]
    equal = {column for column, low, high in filters if low == high}
    touched, looked_up, in_order = done(rows, question, lambda row: False, set(order) <= equal)
    return -1, touched, 0, in_order, 2 * touched + 3 * in_order


def by_index(rows, question, number, index):
    """None if the index doesn't serve the question."""
    filters, order, back, wanted, limit, often = question
    keys, included, condition = index
    own = set(keys) | set(included)
    if condition and not any(
        column == condition[0] and set(range(low, high + 1)) <= set(range(condition[1], condition[2] + 1))
        for column, low, high in filters
    ):
        return None
    equal = {column for column, low, high in filters if low == high}
    leading = list(itertools.takewhile(lambda key: key in equal, keys))
    leading = keys[:len(leading) + 1]
    entries = [row for row in rows if not condition or passing(row, [condition])]
    entries = [row for row in entries if passing(row, [told for told in filters if told[0] in leading])]
    for key in reversed(keys):
        entries.sort(key=lambda row: row[key])
    if back:
        entries.reverse()
    free_order = [column for column in order if column not in equal]
    free_keys = [key for key in keys if key not in equal]
    free = free_order == free_keys[:len(free_order)]
    covered = own >= {told[0] for told in filters} | set(order) | set(wanted)
    own_filters = [told for told in filters if told[0] in own]
    touched, looked_up, in_order = done(
        entries, question, lambda row: not covered and passing(row, own_filters), free)
    return number, touched, looked_up, in_order, touched + 4 * looked_up + 3 * in_order


def best(rows, question, indexes, chosen):
    ways = [by_table(rows, question)] + [by_index(rows, question, number, indexes[number]) for number in chosen]
    return min([one for one in ways if one], key=lambda one: (one[4], one[0]))


def answered(rows, question):
    filters, order, back, wanted, limit, often = question
    found = sorted([tuple(row[column] for column in order) for row in rows if passing(row, filters)], reverse=back)
    found = found[:limit] if limit else found
    parts = [(len(list(part)), values) for values, part in itertools.groupby(found)]
    return [len(found), len(parts)] + [number for rows, values in parts for number in (rows, *values)]


def upkeep(index, writes, width):
    keys, included, condition = index
    cost = 0
    for sort, rows, *values in writes:
        sides = [values[:width], values[width:]] if sort == 2 else [values]
        inside = [side for side in sides if not condition or passing(side, [condition])]
        shown = [[side[column] for column in keys + included] for side in inside]
        if not (len(shown) == 2 and shown[0] == shown[1]):
            cost += 3 * rows * len(inside)
    return cost


def suggested(question):
    """The candidates' keys and included columns, as pairs."""
    filters, order, back, wanted, limit, often = question
    needed = list(dict.fromkeys([told[0] for told in filters] + order + wanted))
    equal = [column for column, low, high in filters if low == high]
    free_order = [column for column in order if column not in equal]
    keys = []
    if free_order:
        keys.append(equal + free_order)
    for column, low, high in filters:
        if low != high:
            keys.append(equal + [column])
    if not keys:
        keys = [equal] if equal else [needed[:1]] if needed else [[0]]
    pairs = []
    for one in keys:
        pairs += [(tuple(one), ()), (tuple(one), tuple(column for column in needed if column not in one))]
    return list(dict.fromkeys(pairs))


class World:
    """A made-up text with writes, days and a room."""

    def __init__(self, seed):
        numbers = Numbers(seed)
        made = made_world(numbers)
        self.width, self.groups, self.questions, self.indexes = made
        self.text = written(made)
        self.rows = [values for values, count in self.groups for turn in range(count)]
        self.writes = []
        for turn in range(numbers.below(4)):
            sort = numbers.below(3)
            values = [numbers.below(3) for column in range(self.width * (2 if sort == 2 else 1))]
            self.writes.append([sort, 1 + numbers.below(5), *values])
        self.upkeeps = [upkeep(index, self.writes, self.width) for index in self.indexes]
        self.rooms = [
            sum(1 + len(keys) + len(included) for row in self.rows if not condition or passing(row, [condition]))
            for keys, included, condition in self.indexes]
        self.room = numbers.below(sum(self.rooms) + 2)
        self.days = [[numbers.below(5) for question in self.questions] for turn in range(numbers.below(4))]
        self.calls = [load(self.text), room(self.room)] + [write(*told) for told in self.writes]
        self.calls += [day(*told) for told in self.days]
        self.numbers = numbers
        # What one asking costs is taken once for each way, as no set changes it.
        self.prices = [
            [best(self.rows, question, self.indexes, [number])[4] for number in range(len(self.indexes))]
            + [by_table(self.rows, question)[4]] for question in self.questions]

    def price(self, question, chosen):
        return min(self.prices[question][number] for number in [-1, *chosen])

    def askings(self, chosen, oftens=None):
        oftens = [question[5] for question in self.questions] if oftens is None else oftens
        return sum(often * self.price(question, chosen) for question, often in enumerate(oftens))

    def cost(self, chosen, oftens=None):
        return self.askings(chosen, oftens) + sum(self.upkeeps[number] for number in chosen)

    def taken(self, chosen):
        return sum(self.rooms[number] for number in chosen)

    def sets(self):
        numbers = range(len(self.indexes))
        return [list(chosen) for size in range(len(numbers) + 1) for chosen in itertools.combinations(numbers, size)]

    def within(self):
        return [chosen for chosen in self.sets() if self.taken(chosen) <= self.room]

    def margin(self, question):
        """Of all places where the first least set may begin or cease to be least, the first and the last where it is."""
        def cost(chosen, often):
            return self.cost(chosen, [
                often if number == question else other[5] for number, other in enumerate(self.questions)])

        within = self.within()
        first = min(within, key=self.cost)
        places = {fractions.Fraction(0)}
        for other in within:
            dearer = self.price(question, first) - self.price(question, other)
            if dearer:
                place = fractions.Fraction(cost(other, 0) - cost(first, 0), dearer)
                places |= {place} if place >= 0 else set()
        beyond = max(places) + 1
        good = [place for place in sorted(places | {beyond}) if all(
            cost(first, place) <= cost(other, place) for other in within)]
        ends = [(place.numerator, place.denominator) for place in (good[0], good[-1])]
        return [*ends[0], *((-1, 0) if good[-1] == beyond else ends[1])]

    def kept(self, question, most):
        keeping = [chosen for chosen in self.within() if self.price(question, chosen) <= most]
        if not keeping:
            return [0]
        first = min(keeping, key=self.cost)
        return [1, self.cost(first), len(first), *first]

    def outdone(self):
        def ways(number):
            """What each question that's served costs, by the question's number."""
            told = [by_index(self.rows, question, number, self.indexes[number]) for question in self.questions]
            return {question: one[4] for question, one in enumerate(told) if one}

        served = [ways(number) for number in range(len(self.indexes))]

        def outdoes(j, i):
            if j == i or not set(served[i]) <= set(served[j]):
                return False
            pairs = [(served[j][question], served[i][question]) for question in served[i]]
            pairs += [(self.upkeeps[j], self.upkeeps[i]), (self.rooms[j], self.rooms[i])]
            if any(one > other for one, other in pairs):
                return False
            return any(one < other for one, other in pairs) or set(served[j]) > set(served[i]) or j < i

        found = []
        for i in range(len(served)):
            found += [(i, j) for j in range(len(served)) if outdoes(j, i)][:1]
        return [len(found)] + [number for pair in found for number in pair]

    def worth(self, number, chosen):
        return [self.askings(set(chosen) - {number}) - self.askings(set(chosen) | {number}), self.upkeeps[number]]

    def plan(self):
        """None if there are too many plans to go through."""
        within = self.within()
        if len(self.indexes) > 5:
            return [-7]
        if len(within) ** len(self.days) > 1100:
            return None
        costs = []
        plans = list(itertools.product(within, repeat=len(self.days)))
        for one in plans:
            before = set()
            cost = 0
            for chosen, oftens in zip(one, self.days):
                cost += self.cost(chosen, oftens) + self.taken(set(chosen) - before)
                before = set(chosen)
            costs.append(cost)
        first = plans[costs.index(min(costs))]
        given = [min(costs), costs.count(min(costs)), len(first)]
        return given + [number for chosen in first for number in (len(chosen), *chosen)]

    def accepts(self, told_cost, proof, looked_at=0, chosen=()):
        """Whether a whole proof is accepted, and what stands behind it."""
        sort, *rest = proof
        if sort == 2:
            return self.taken(chosen) > self.room, rest
        if sort == 1:
            upkeeps = sum(self.upkeeps[number] for number in chosen)
            return told_cost <= self.askings([*chosen, *range(looked_at, len(self.indexes))]) + upkeeps, rest
        if looked_at == len(self.indexes):
            return False, None
        first, rest = self.accepts(told_cost, rest, looked_at + 1, (*chosen, looked_at))
        if not first:
            return False, None
        return self.accepts(told_cost, rest, looked_at + 1, chosen)

    def made_up_proof(self, looked_at, chosen):
        """Mostly one that may be accepted."""
        if self.numbers.below(20) == 0:
            odd = [[1], [2], [0, 1, 1]][self.numbers.below(3)]
            return odd if looked_at < 9 else [1]
        if self.taken(chosen) > self.room:
            return [2]
        if looked_at >= len(self.indexes) or self.numbers.below(3) == 0:
            return [1]
        return [0, *self.made_up_proof(looked_at + 1, [*chosen, looked_at]), *self.made_up_proof(looked_at + 1, chosen)]

    def proof(self, told_cost, looked_at, chosen):
        if self.taken(chosen) > self.room:
            return [2]
        rest = list(range(looked_at, len(self.indexes)))
        if told_cost <= self.askings(chosen + rest) + sum(self.upkeeps[number] for number in chosen):
            return [1]
        return ([0] + self.proof(told_cost, looked_at + 1, chosen + [looked_at])
                + self.proof(told_cost, looked_at + 1, chosen))


class RowByRow(unittest.TestCase):
    def test_load_answers_its_counts(self):
        for seed in range(WORLDS):
            world = World(seed)
            self.assertEqual(last(load(world.text)), [
                0, world.width, len(world.groups), len(world.questions), len(world.indexes)], world.text)

    def test_ways_and_answers(self):
        for seed in range(WORLDS):
            world = World(seed)
            for number, question in enumerate(world.questions):
                chosen = sorted(world.numbers.some(range(len(world.indexes)), 8))
                singles = [[index] for index in range(len(world.indexes))]
                sets = [chosen, []] + singles
                found = run(*world.calls, answer(number), *[way(number, *one) for one in sets])[len(world.calls):]
                expected = [answered(world.rows, question)]
                expected += [list(best(world.rows, question, world.indexes, one)) for one in sets]
                self.assertEqual(found, expected, (seed, number, world.text))

    def test_totals(self):
        for seed in range(WORLDS):
            world = World(seed)
            for chosen in world.sets()[::17]:
                upkeeps = sum(world.upkeeps[number] for number in chosen)
                self.assertEqual(
                    last(*world.calls, total(*chosen)), [world.askings(chosen), upkeeps, world.taken(chosen)], seed)

    def test_least_sets_and_proofs(self):
        for seed in range(WORLDS):
            world = World(seed)
            within = world.within()
            cost = min(map(world.cost, within))
            sets = [chosen for chosen in within if world.cost(chosen) == cost]
            proof = world.proof(cost, 0, [])
            ends = len(proof) - proof.count(0)
            self.assertEqual(run(*world.calls, least(), prove())[-2:], [
                [cost, len(sets), len(sets[0]), *sets[0]], [cost, ends, *proof]], seed)

    def test_checks(self):
        outcomes = []
        for seed in range(WORLDS):
            world = World(seed)
            cost = min(map(world.cost, world.within()))
            proofs = [world.proof(cost, 0, [])] + [world.made_up_proof(0, []) for turn in range(5)]
            told = [(cost + move, proof) for proof in proofs for move in (-cost, -1, 0, 1, 9) if cost + move >= 0]
            told = [one for one in told if len(one[1]) <= 600]
            expected = [[int(world.accepts(*one)[0])] for one in told]
            found = [run(*world.calls, check(cost, *proof))[-1] for cost, proof in told]
            self.assertEqual(found, expected, seed)
            outcomes += expected
        self.assertGreater(min(outcomes.count([0]), outcomes.count([1])), WORLDS)

    def test_margins_and_kept_costs(self):
        for seed in range(WORLDS):
            world = World(seed)
            for question in range(len(world.questions)):
                costs = sorted({cost + move for cost in world.prices[question] for move in (-1, 0)} - {-1})
                found = run(*world.calls, margin(question), *[kept(question, cost) for cost in costs])
                expected = [world.margin(question)] + [world.kept(question, cost) for cost in costs]
                self.assertEqual(found[len(world.calls):], expected, (seed, question))

    def test_outdone_indexes_and_worths(self):
        for seed in range(WORLDS):
            world = World(seed)
            told = [
                (number, sorted(world.numbers.some(range(len(world.indexes)), 8)))
                for number in range(len(world.indexes)) for turn in range(2)]
            found = run(*world.calls, outdone(), *[worth(number, *chosen) for number, chosen in told])
            expected = [world.outdone()] + [world.worth(number, chosen) for number, chosen in told]
            self.assertEqual(found[len(world.calls):], expected, seed)

    def test_candidates(self):
        for seed in range(WORLDS):
            world = World(seed)
            for number, question in enumerate(world.questions):
                pairs = suggested(question)
                expected = [len(pairs)]
                for keys, included in pairs:
                    expected += [len(keys), *keys, len(included), *included, 0]
                self.assertEqual(last(*world.calls, candidates(number)), expected, (seed, number))

    def test_indexes_that_are_made_are_as_if_told(self):
        for seed in range(WORLDS):
            world = World(seed)
            count = len(world.indexes)
            if not world.questions or count == 8:
                continue
            question = world.numbers.below(len(world.questions))
            pairs = suggested(world.questions[question])
            number = world.numbers.below(len(pairs))
            keys, included = pairs[number]
            index = f"index made on {written_columns(keys)}" + (" with " if included else "")
            told = load(world.text + index + written_columns(included) + ";")
            calls = [total(count), least(), prove(), outdone(), worth(count), plan(), make(question, number)]
            for other in range(len(world.questions)):
                calls += [way(other, count), margin(other), kept(other, 5)]
            made = run(*world.calls, make(question, number), *calls)
            behind = run(told, *world.calls[1:], *calls)
            self.assertEqual(made[len(world.calls) + 1:], behind[len(world.calls):], seed)
            own = (list(keys), list(included), None)
            rows = len(world.rows) * (1 + len(keys) + len(included))
            self.assertEqual(made[len(world.calls)], [count, rows, upkeep(own, world.writes, world.width)])

    def test_plans(self):
        gone_through = 0
        for seed in range(2 * WORLDS):
            world = World(seed)
            expected = world.plan()
            if expected is not None:
                self.assertEqual(last(*world.calls, plan()), expected, seed)
                gone_through += expected != [-7] and len(world.days) > 1 and len(world.within()) > 1
        self.assertGreater(gone_through, 20)


if __name__ == "__main__":
    unittest.main()

"""What the promises 15 to 22 ask for, found by trial with the second telling of runs (tests/model.py).

Runs are done anew from their first step on; nothing here is taken from the modules that are tested.
"""

import itertools

from tests.model import Failed, Model, modelled

ITSELF = ("lot", ())


def steps_of(program):
    return [("load", part) for part in program[2]] + [("ask",) + need for need in program[3]] + [("back",)]


def places_of(program):
    return [(part, index) for part, rows in enumerate(program[0]) for index in range(len(rows))]


def row_of(program, place):
    return program[0][place[0]][place[1]]


def risky_of(program):
    return [place for place in places_of(program)
            if row_of(program, place)[0] in ("give", "show") and row_of(program, place)[-1]]


def done(program, made, steps, failing=None):
    """The (events, state) of a run of the program in what was made."""
    source = made[1] if made[0] in ("program", "packed") else program
    if made[0] in ("layout", "packed"):
        return modelled(source, (steps, failing), layout=made[-1])
    return modelled(source, (steps, failing), lot=made[-1])


def has_failed(events):
    return any(event[0] == "fail" for event in events)


def unlike(program, made, steps, first=ITSELF):
    """Whether some run with these steps has unlike events."""
    return any(done(program, first, steps, failing)[0] != done(program, made, steps, failing)[0]
               for failing in [None] + risky_of(program))


def pair_behind(program, made, steps, first=ITSELF):
    """The pair of states behind the steps, None if something has failed."""
    (events, state), (others, other) = done(program, first, steps), done(program, made, steps)
    return None if has_failed(events) or has_failed(others) else (state, other)


def all_runs(program, made, most):
    """(least, pairs, more): of all runs with up to most steps the least number of steps with unlike events, or None;
    the pairs behind them; and whether the last step still led to new ones."""
    pairs, fresh = set(), False
    for many in range(most + 1):
        behind = set()
        for steps in itertools.product(steps_of(program), repeat=many):
            if unlike(program, made, list(steps)):
                return many, None, None
            behind.add(pair_behind(program, made, list(steps)))
        fresh = not behind <= pairs | {None}
        pairs |= behind - {None}
    return None, pairs, fresh


def walk(program, made, first=ITSELF, some=None):
    """(least, pairs) of runs of any length, of some of the steps if told so: a run goes on only from new pairs."""
    some = steps_of(program) if some is None else some
    met = {pair_behind(program, made, [], first)}
    level = [[]]
    while level:
        runs, level = [steps + [step] for steps in level for step in some], []
        for steps in runs:
            if unlike(program, made, steps, first):
                return len(steps), None
            pair = pair_behind(program, made, steps, first)
            if pair is not None and pair not in met:
                met.add(pair)
                level.append(steps)
    return None, met


def states_of(program, made):
    """For each state of what was made, in the order in which they are met, a shortest list of steps to it."""
    ways = {done(program, made, [])[1]: []}
    queue = [[]]
    while queue:
        steps = queue.pop(0)
        for step in steps_of(program):
            events, state = done(program, made, steps + [step])
            if not has_failed(events) and state not in ways:
                ways[state] = steps + [step]
                queue.append(steps + [step])
    return ways


def outcome(program, made, steps, step):
    """(events, risks, state behind or None) of a step that follows others."""
    before = len(done(program, made, steps)[0])
    events, state = done(program, made, steps + [step])
    events = events[before:]
    risks = []
    for place in risky_of(program):
        others = done(program, made, steps + [step], place)[0]
        if others != done(program, made, steps, place)[0] and others[before:] != events:
            risks.append((place, len(others) - before - 1))
    return tuple(events), tuple(risks), None if has_failed(events) else state


def outcomes_of(program, made):
    """For each state, in the order in which they are met, the list of its outcomes."""
    return {state: [outcome(program, made, steps, step) for step in steps_of(program)]
            for state, steps in states_of(program, made).items()}


def table(program, made):
    """The user table: states are told apart one by one, and the classes numbered from class to class."""
    outcomes = outcomes_of(program, made)
    apart = set()
    more = True
    while more:
        more = False
        for one, other in itertools.combinations(outcomes, 2):
            if (one, other) not in apart and any(
                    a[:2] != b[:2] or (a[2], b[2]) in apart or (b[2], a[2]) in apart
                    for a, b in zip(outcomes[one], outcomes[other])):
                apart.add((one, other))
                more = True

    def leader(state):
        return next(other for other in outcomes if other == state or
                    ((other, state) not in apart and (state, other) not in apart))

    order = [leader(next(iter(outcomes)))]
    for state in order:
        for _, _, behind in outcomes[state]:
            if behind is not None and leader(behind) not in order:
                order.append(leader(behind))
    return tuple(tuple((events, risks, -1 if behind is None else order.index(leader(behind)))
                       for events, risks, behind in outcomes[state]) for state in order)


def is_paper(program, made, pairs):
    """Promise 17, word by word, for a list of pairs of tuples."""
    one, other = outcomes_of(program, ITSELF), outcomes_of(program, made)
    if any(pair[0] not in one or pair[1] not in other for pair in pairs):
        return False
    if (next(iter(one)), next(iter(other))) not in pairs:
        return False
    return all(a[:2] == b[:2] and (a[2] is None or (a[2], b[2]) in pairs)
               for pair in pairs for a, b in zip(one[pair[0]], other[pair[1]]))


def widest_paper(program, made):
    """The greatest list of pairs that promise 17 lets, [] if there is none."""
    one, other = outcomes_of(program, ITSELF), outcomes_of(program, made)
    pairs = set(itertools.product(one, other))
    while True:
        kept = {pair for pair in pairs if all(a[:2] == b[:2] and (a[2] is None or (a[2], b[2]) in pairs)
                                              for a, b in zip(one[pair[0]], other[pair[1]]))}
        if kept == pairs:
            break
        pairs = kept
    return sorted(pairs) if (next(iter(one)), next(iter(other))) in pairs else []


class Watcher(Model):
    """A model that notes each row whose turn comes."""

    def row(self, place, row):
        self.came = getattr(self, "came", set()) | {place}
        return super().row(place, row)


def done_rows(program):
    came = set()
    for steps in states_of(program, ITSELF).values():
        for step in steps_of(program):
            watcher = Watcher(program)
            for taken in steps + [step]:
                watcher.step(taken)
            came |= getattr(watcher, "came", set())
    return sorted(came)


def all_lots(places):
    return [lot for many in range(len(places) + 1) for lot in itertools.combinations(sorted(places), many)]


def harmless_lots(program, places):
    """All lots of these places that walk finds harmless."""
    return [lot for lot in all_lots(places) if walk(program, ("lot", lot))[0] is None]


def natural_layout(program):
    """Rows laid as promise 34 tells it, as far as nothing fails: for each door those that its load alone does."""
    doors = sorted(set(program[2]) | {row[2] for rows in program[0] for row in rows if row[0] == "late"} - {-1})
    orders = {}
    for door in doors:
        orders[door] = done((program[0], program[1], (door,), ()), ITSELF, [("load", door), ("back",), ("back",)])[1][0]
    kinds = {}
    for part in range(len(program[0])):
        mine = tuple(door for door in doors if any(place[0] == part for place in orders[door]))
        kinds.setdefault(mine, []).append(part)
    kinds.pop((), None)
    packs, numbers = [], {door: [] for door in doors}
    for mine in sorted(kinds):
        packs.append(tuple(place for place in orders[mine[0]] if place[0] in kinds[mine]))
    for door in doors:
        for place in orders[door]:
            number = next((at for at, pack in enumerate(packs) if place in pack), None)
            if number is not None and number not in numbers[door]:
                numbers[door].append(number)
    return (tuple(packs), tuple((door, tuple(numbers[door])) for door in doors))

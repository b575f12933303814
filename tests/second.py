"""What the promises 23 to 32 ask for, told a second time: by trying all of what is asked for, whatever it takes.

Nothing here is taken from the modules that are tested.
"""

import itertools

from tests import trial
from tests.model import Model
from tests.trial import ITSELF, places_of, row_of

OPTIONS = [options for many in range(5) for options in
           itertools.combinations(("loads", "lookups", "marks", "risks"), many)]


def subsets(things):
    return [some for many in range(len(things) + 1) for some in itertools.combinations(things, many)]


# Audiences [23].

def audiences_of(program):
    return subsets(sorted(trial.steps_of(program)[:-1]))


def can_tell(program, made, audience):
    return trial.walk(program, made, some=list(audience) + [("back",)])[0] is not None


# What is sure [24] to [28].

def loading_target(row):
    return {"load": row[1:2], "pass": row[2:3]}.get(row[0], ())


def doors_of(program):
    return sorted((set(program[2]) | {row[2] for rows in program[0] for row in rows if row[0] == "late"}) - {-1})


def leads(program, with_outs=False):
    """The set of all (part, other) of which the first leads (with_outs: may come) to the other, by ever longer ways."""
    many = range(len(program[0]))
    known = {(part, target) for part in many for row in program[0][part] for target in loading_target(row)}
    if with_outs:
        known |= {(part, door) for part in many if ("out",) in program[0][part] for door in doors_of(program)}
    for _ in many:
        known |= {(one, last) for one, middle in known for other, last in known if middle == other}
    return known


def ready_parts(program, place):
    """The least set of parts that has all that promise 24 asks for, of all sets of parts."""
    own, index = place
    comes = leads(program, True)

    def is_closed(parts):
        rows = list(program[0][own][:index]) + [row for part in parts for row in program[0][part]]
        return all(target in parts or target == own or (target, own) in comes
                   for row in rows for target in loading_target(row))

    closed = [set(parts) for parts in subsets(range(len(program[0]))) if is_closed(parts)]
    return sorted(set.intersection(*closed))


def givers(program, need):
    return [place for place in places_of(program) if place[0] == need[0] and
            row_of(program, place)[0] in ("give", "pass", "late") and row_of(program, place)[1] == need[1]]


def sure_names(program, place):
    found = []
    for need in itertools.product(range(len(program[0])), "abcd"):
        rows = givers(program, need)
        ahead = need[0] == place[0] and any(row[1] < place[1] for row in rows)
        if rows and all(row_of(program, row)[0] != "pass" for row in rows):
            if need[0] in ready_parts(program, place) or ahead:
                found.append(need)
    return found


def is_way(program, place, part, way):
    """Promise 26, word by word."""
    if not isinstance(way, list) or not way:
        return False
    ready = ready_parts(program, place)
    at = [row for row in range(place[1])]
    own = place[0]
    for step in way:
        if step[0] != own or step[1] not in at:
            return False
        targets = loading_target(row_of(program, step))
        if not targets or targets[0] not in ready:
            return False
        own, at = targets[0], range(len(program[0][targets[0]]))
    return own == part


def shortest_way(program, place, part):
    """The number of rows of a shortest way, None if there is none."""
    rows = [row for row in places_of(program) if loading_target(row_of(program, row))]
    for many in range(1, 5):
        if any(is_way(program, place, part, list(way)) for way in itertools.product(rows, repeat=many)):
            return many
    return None


class Watcher(Model):
    """A model that notes for each row whose turn comes the needs that are lacking then."""

    def __init__(self, *told, **more):
        super().__init__(*told, **more)
        self.lacks = {}

    def row(self, place, row):
        needs = {"give": row[2:3], "show": row[1:2]}.get(row[0], ((),))[0]
        self.lacks[place] = [need for need in needs if self.look_up(need, ())[0] == "lack"]
        return super().row(place, row)


def lacks(program, steps):
    watcher = Watcher(program)
    for step in steps:
        watcher.step(step)
    return watcher.lacks


def lacking(program):
    """For each (place, need) that is lacking in some run the least number of steps, and the rows that come at all."""
    found, came = {}, set()
    for steps in trial.states_of(program, ITSELF).values():
        for step in trial.steps_of(program):
            for place, needs in lacks(program, steps + [step]).items():
                came.add(place)
                for need in needs:
                    found[place, need] = min(found.get((place, need), 99), len(steps) + 1)
    return found, came


def needs_in(row):
    return {"give": row[2:3], "show": row[1:2], "late": row[3:4]}.get(row[0], ((),))[0]


def shortened(program):
    """Replace one need after the other in the whole program, until nothing is handed on any more."""
    parts = [[list(row) for row in rows] for rows in program[0]]
    stood = {}
    more = True
    while more:
        more = False
        for place in places_of(program):
            row = parts[place[0]][place[1]]
            if row[0] not in ("give", "show"):
                continue
            spot = 2 if row[0] == "give" else 1
            for at, need in enumerate(row[spot]):
                rows = givers(program, need)
                if len(rows) != 1 or row_of(program, rows[0])[0] != "pass":
                    continue
                if not (need[0] in ready_parts(program, place) or (need[0] == place[0] and rows[0][1] < place[1])):
                    continue
                new = row_of(program, rows[0])[2:]
                before = stood.setdefault((place, at), [need])
                if new not in before:
                    before.append(new)
                    row[spot] = row[spot][:at] + (new,) + row[spot][at + 1:]
                    more = True
    return (tuple(tuple(tuple(row) for row in rows) for rows in parts),) + program[1:]


# The tool [29] to [32].

def unsure(program):
    return {place for place in places_of(program) if row_of(program, place)[0] == "give" and
            any(need not in sure_names(program, place) for need in row_of(program, place)[2])}


def unfound(program):
    found = lacking(program)[0]
    return {place for place in places_of(program) if row_of(program, place)[0] == "give" and
            any((place, need) in found for need in row_of(program, place)[2])}


def named_by(program, places):
    """The (part, name) of the needs of these rows, and of what the pass rows among them hand on."""
    rows = [row_of(program, place) for place in places]
    return {need for row in rows for need in needs_in(row)} | {row[2:] for row in rows if row[0] == "pass"}


def asked_for(program, options, held):
    """The places of the rows for which (a) and (b) ask, marks aside; held: those of (b)."""
    found = {place for place in places_of(program) if row_of(program, place)[0] in ("show", "out")}
    if "risks" not in options:
        found |= set(trial.risky_of(program))
    return found if "lookups" in options else found | held


def demanded(program, options, kept, held):
    """The rows for which promise 29 asks if these are kept."""
    named = {row for need in named_by(program, kept) | set(program[3]) for row in givers(program, need)}
    asked = asked_for(program, options, held)
    if "marks" in options:
        asked = {row for row in asked if not program[1][row[0]] or row[0] in {part for part, _ in named}}
    comes = leads(program)
    loads = {place for place in places_of(program) for target in loading_target(row_of(program, place))
             if "loads" not in options or any(row[0] == target or (target, row[0]) in comes for row in kept)}
    return named | asked | loads


def kept_rows(program, options, held=None):
    """Of all sets of rows that have what is asked for the one with the fewest rows."""
    held = unsure(program) if held is None else held
    for some in subsets(places_of(program)):
        if demanded(program, options, some, held) <= set(some):
            return set(some)


def first_links(program, options):
    """All (why, place) with which a way can begin."""
    asked = [place for place in asked_for(program, options, unsure(program))
             if not ("marks" in options and program[1][place[0]])]
    found = {("shows", place) for place in asked if row_of(program, place)[0] in ("show", "out")}
    if "risks" not in options:
        found |= {("risks", place) for place in asked if place in trial.risky_of(program)}
    if "lookups" not in options:
        found |= {("lacks", place) for place in asked if place in unsure(program)}
    found |= {("open", row) for need in program[3] for row in givers(program, need)}
    if "loads" not in options:
        found |= {("loads", place) for place in places_of(program) if loading_target(row_of(program, place))}
    return found


def later_links(program, options, before):
    """All (why, place) that can follow one in a way."""
    why, place = before
    found = {("needs", row) for need in named_by(program, [place]) for row in givers(program, need)}
    comes = leads(program)
    found |= {("loads", row) for row in places_of(program) for target in loading_target(row_of(program, row))
              if target == place[0] or (target, place[0]) in comes}
    if "marks" in options and program[1][place[0]] and why in ("open", "needs"):
        found |= {("marked", row) for row in asked_for(program, options, unsure(program)) if row[0] == place[0]}
    return found


def is_reason(program, place, options, way):
    if not isinstance(way, list) or not way or way[-1][1] != place or way[0] not in first_links(program, options):
        return False
    return all(link in later_links(program, options, before) for before, link in zip(way, way[1:]))


def reason_lengths(program, options):
    """For each row that is held the number of links of a shortest way."""
    lengths, links, many = {}, first_links(program, options), 1
    met = set(links)
    while links:
        for _, place in links:
            lengths.setdefault(place, many)
        links = {link for before in links for link in later_links(program, options, before)} - met
        met |= links
        many += 1
    return lengths


# Packs [33] to [36].

class Lax(Model):
    """A model in which nothing fails and call outs end at once."""

    def needed(self, place, needs, risky):
        return ()


def order_of(program, door):
    """The order in which rows are done if the door is loaded alone and every call out is ended at once."""
    lax = Lax(program)
    lax.step(("load", door))
    while lax.under_way:
        lax.step(("back",))
    return lax.done


def owners_of(program):
    """For each part the tuple of the doors that belong to it."""
    known = leads(program)
    return [tuple(door for door in doors_of(program) if door == part or (door, part) in known)
            for part in range(len(program[0]))]


def split_layout(program):
    owners = owners_of(program)
    kinds = sorted({owners[part] for part, _ in places_of(program) if owners[part]})
    packs = tuple(tuple(place for place in order_of(program, kind[0]) if owners[place[0]] == kind) for kind in kinds)
    doors = []
    for door in doors_of(program):
        order = order_of(program, door)
        mine = [number for number, kind in enumerate(kinds) if door in kind]
        doors.append((door, tuple(sorted(mine, key=lambda number: min(order.index(place) for place in packs[number])))))
    return packs, tuple(doors)


def harmless_ones(program, layouts):
    return sorted(layout for layout in layouts if trial.walk(program, ("layout", layout))[0] is None)


def split_orders(program):
    packs, doors = split_layout(program)
    orders = [[(door, order) for order in itertools.permutations(numbers)] for door, numbers in doors]
    return [(packs, chosen) for chosen in itertools.product(*orders)]


def partitions(things):
    """All partitions of a list, each a list of ascending lists, by their least members."""
    if not things:
        return [[]]
    found = []
    for rest in partitions(things[:-1]):
        found.append(rest + [[things[-1]]])
        found.extend(rest[:at] + [rest[at] + [things[-1]]] + rest[at + 1:] for at in range(len(rest)))
    return found


def joined_layouts(program):
    packs, doors = split_layout(program)
    found = []
    for groups in partitions(list(range(len(packs)))):
        groups = sorted(groups)
        where = {number: at for at, group in enumerate(groups) for number in group}
        joined = tuple(sum((packs[number] for number in group), ()) for group in groups)
        mapped = tuple((door, tuple(dict.fromkeys(where[number] for number in numbers))) for door, numbers in doors)
        found.append((joined, mapped))
    return found


def fewest_packs(program):
    good = harmless_ones(program, joined_layouts(program))
    return [layout for layout in good if len(layout[0]) == min(len(other[0]) for other in good)]

"""What is sure when the turn of a row comes, and needs that are only handed on."""

from leanbundle.errors import BadNeed, BadPart, BadPlace
from leanbundle.leads import coming_links_of, parts_behind
from leanbundle.machine import machine_of
from leanbundle.programs import NAMES, NEEDS_AT, demand_place, demand_program, givers_of, is_loading, is_need
from leanbundle.programs import is_number, is_place, needs_of, part_named, row_at


def ready_parts(program, place):
    """The parts that have been done as a whole when the turn of the row comes [24]."""
    demand_program(program)
    demand_place(program, place)
    return sorted(ways_to_ready_parts(program, place))


def ways_to_ready_parts(program, place):
    """For each part that is ready for the place a shortest way to it, as sure_way tells it."""
    own, index = place
    free = parts_that_stay_away(program, own)
    ways = {}
    # Each entry is a way, and the part and the number of its rows that may come next.
    waiting = [([], own, index)]
    while waiting:
        longer = []
        for way, part, many in waiting:
            for at, row in enumerate(program[0][part][:many]):
                if is_loading(row) and part_named(row) in free and part_named(row) not in ways:
                    named = part_named(row)
                    ways[named] = way + [(part, at)]
                    longer.append((ways[named], named, len(program[0][named])))
        waiting = longer
    return ways


def parts_that_stay_away(program, own):
    """The other parts that may not come to this one."""
    links = coming_links_of(program)
    return [part for part in range(len(links)) if part != own and own not in parts_behind(links, part)]


def sure_names(program, place):
    """The (part, name) that are surely found when the turn of the row comes [25]."""
    ready = ready_parts(program, place)
    needs = [(part, name) for part in range(len(program[0])) for name in NAMES]
    return [need for need in needs if is_sure(program, place, ready, need)]


def is_sure(program, place, ready, need):
    givers = givers_of(program, need)
    if any([row_at(program, giver)[0] == "pass" for giver in givers]):
        return False
    return any([is_done_before(place, ready, giver) for giver in givers])


def is_done_before(place, ready, other):
    """Whether the other row is one of a ready part, or stands ahead of the place in its own part."""
    return other[0] in ready or (other[0] == place[0] and other[1] < place[1])


def sure_way(program, place, part):
    """A shortest way of load and pass rows to a ready part, None if the part is not ready [26]."""
    demand_program(program)
    demand_place(program, place)
    if not is_number(part, len(program[0])):
        raise BadPart("not the number of a part")
    return ways_to_ready_parts(program, place).get(part)


def found_names(program, place):
    """The needs of a give or show row that are never lacking when its turn comes [27]."""
    demand_needy_place(program, place)
    return sorted(set(needs_of(row_at(program, place)))
                  - {need for lacking, need in lacking_needs(program) if lacking == place})


def lacking_needs(program):
    """For each (place, need) that is lacking in some run at the turn of the row, shortest steps to that."""
    machine = machine_of(program)
    machine.explore()
    return machine.lacks


def demand_needy_place(program, place):
    """Raise BadProgram or BadPlace, unless it is the place of a give or show row of a program."""
    demand_program(program)
    if not is_place(program, place) or not is_give_or_show(row_at(program, place)):
        raise BadPlace("not the place of a give or show row")


def is_give_or_show(row):
    return row[0] in ("give", "show")


def run_without(program, place, need):
    """A shortest run in which the need is lacking at the turn of the row, None if there is none [27]."""
    demand_needy_place(program, place)
    if not is_need(need, len(program[0])) or need not in needs_of(row_at(program, place)):
        raise BadNeed("not a need of the row")
    steps = lacking_needs(program).get((place, need))
    return None if steps is None else (steps, None)


def shortened(program):
    """The program in which needs that are only handed on are replaced by what is handed on [28]."""
    demand_program(program)
    parts = tuple([tuple([shortened_row(program, (part, index), row) for index, row in enumerate(rows)])
                   for part, rows in enumerate(program[0])])
    return (parts,) + program[1:]


def shortened_row(program, place, row):
    if not is_give_or_show(row):
        return row
    ready = ready_parts(program, place)
    at = NEEDS_AT[row[0]]
    return row[:at] + (tuple([last_need(program, place, ready, need) for need in row[at]]),) + row[at + 1:]


def last_need(program, place, ready, need):
    """What stands in the place of a need in the end."""
    stood = [need]
    named = need_behind(program, place, ready, need)
    while named is not None and named not in stood:
        stood.append(named)
        named = need_behind(program, place, ready, named)
    return stood[-1]


def need_behind(program, place, ready, need):
    """What the one pass row that gives the name hands on, None if the need is not handed on."""
    givers = givers_of(program, need)
    if len(givers) != 1 or not is_done_before(place, ready, givers[0]):
        return None
    row = row_at(program, givers[0])
    return (row[2], row[3]) if row[0] == "pass" else None

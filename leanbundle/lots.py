"""The greatest lots that nobody can tell, and what to take back of a lot."""

from leanbundle.errors import TooMany
from leanbundle.machine import Machine, is_harmless, machine_of
from leanbundle.programs import all_rows, demand_lot, demand_program, is_risky, row_at

MOST_ROWS_TO_TRY = 6


def done_rows(program):
    """The places of all rows whose turn comes in some run [20]."""
    demand_program(program)
    machine = machine_of(program)
    machine.explore()
    return sorted(machine.reached)


def open_rows(program):
    """The places of all rows but the show, out and risky rows whose turn comes in some run [20]."""
    done = done_rows(program)
    return [place for place in all_rows(program) if place not in done or not is_seen(row_at(program, place))]


def is_seen(row):
    return row[0] in ("show", "out") or is_risky(row)


def greatest_lots(program):
    """All harmless lots that are not part of a greater harmless one [21]."""
    lots = harmless_lots(program)
    return sorted([lot for lot in lots if not any([is_part(lot, other) for other in lots if other != lot])])


def held_rows(program):
    """The places of the rows that are in no harmless lot [21]."""
    lots = harmless_lots(program)
    return [place for place in all_rows(program) if not is_in_some(lots, (place,))]


def barred_pairs(program):
    """The pairs of places of which each is in some harmless lot, but no harmless lot has both [21]."""
    lots = harmless_lots(program)
    loose = [place for place in all_rows(program) if is_in_some(lots, (place,))]
    pairs = [(place, other) for place in loose for other in loose if place < other]
    return [pair for pair in pairs if not is_in_some(lots, pair)]


def mends(program, lot):
    """The least lots of rows of the lot that, taken back, leave a harmless lot [22]."""
    demand_program(program)
    demand_lot(program, lot)
    demand_few(lot)
    first = machine_of(program)
    taken = [some for some in choices_of(lot) if is_safe(first, without(lot, some))]
    return sorted([some for some in taken if not any([is_part(other, some) for other in taken if other != some])])


def harmless_lots(program):
    """All harmless lots of a program with few open rows: a lot with another row is never harmless."""
    rows = open_rows(program)
    demand_few(rows)
    first = machine_of(program)
    return [lot for lot in choices_of(rows) if is_safe(first, lot)]


def demand_few(rows):
    if len(rows) > MOST_ROWS_TO_TRY:
        raise TooMany("more rows than are tried")


def is_safe(first, lot):
    """Whether a lot is harmless for the program of which this is the machine."""
    return is_harmless(first, Machine(first.original, ("lot", lot)))


def choices_of(things):
    """All tuples of some of these things, in their order."""
    choices = [()]
    for thing in things:
        choices = choices + [choice + (thing,) for choice in choices]
    return choices


def without(lot, places):
    return tuple([place for place in lot if place not in places])


def is_part(lot, other):
    return all([place in other for place in lot])


def is_in_some(lots, places):
    return any([is_part(places, lot) for lot in lots])

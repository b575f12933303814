"""The rows of a program laid into packs."""

from leanbundle.errors import ManyDoors, TooMany
from leanbundle.machine import Machine, is_harmless, machine_of
from leanbundle.programs import all_rows, demand_layout, doors_of, is_loading, part_named
from leanbundle.sure import shortened
from leanbundle.tool import shaken_lot

MOST_LAYOUTS = 36


def flat_layout(program):
    """The layout with one pack of a program with one door [33]."""
    doors = doors_of(program)
    if len(doors) > 1:
        raise ManyDoors("more than one door")
    rows = order_of(program, doors[0])
    packs = (tuple(rows),) if rows else ()
    return (packs, ((doors[0], tuple(range(len(packs)))),))


def order_of(program, door):
    """The places of the rows in the order in which they are done if the door is loaded and nothing fails."""
    order = []
    do_part(program, door, {}, order)
    return order


def do_part(program, part, begun, order):
    """Put the places of the rows that are done by loading a part to the order, unless it has been begun."""
    if part in begun:
        return
    begun[part] = True
    for index, row in enumerate(program[0][part]):
        # The turn of a pass row comes ahead of the part that it loads, but it is done behind it.
        if row[0] != "pass":
            order.append((part, index))
        if is_loading(row):
            do_part(program, part_named(row), begun, order)
        if row[0] == "pass":
            order.append((part, index))


def split_layout(program):
    """The layout with a pack for all parts to which the same doors belong [34]."""
    orders = {door: order_of(program, door) for door in doors_of(program)}
    owners = {place: tuple([door for door in orders if place in orders[door]]) for place in all_rows(program)}
    kinds = sorted(set([owners[place] for door in orders for place in orders[door]]))
    packs = tuple([tuple([place for place in orders[kind[0]] if owners[place] == kind]) for kind in kinds])
    doors = [(door, first_ones([kinds.index(owners[place]) for place in orders[door]])) for door in orders]
    return (packs, tuple(doors))


def first_ones(things):
    """Each thing once, where it comes first."""
    return tuple({thing: True for thing in things})


def layout_lot(program, layout):
    """The lot of the rows that are in no pack of the layout [35]."""
    demand_layout(program, layout)
    laid = [place for pack in layout[0] for place in pack]
    return tuple([place for place in all_rows(program) if place not in laid])


def good_splits(program):
    """The harmless layouts that come of split_layout by other orders of the numbers of its doors [35]."""
    packs, doors = split_layout(program)
    return harmless_layouts(program, [(packs, other) for other in other_orders(doors)])


def other_orders(doors):
    """All ways to give the doors of a layout their numbers in some order."""
    found = [()]
    for door, numbers in doors:
        found = [before + ((door, order),) for before in found for order in orders_of(numbers)]
        if len(found) > MOST_LAYOUTS:
            raise TooMany("more layouts than are looked at")
    return found


def orders_of(numbers):
    """All tuples of these numbers, each once, in some order."""
    if not numbers:
        return [()]
    return [(number,) + order for number in numbers
            for order in orders_of([other for other in numbers if other != number])]


def harmless_layouts(program, layouts):
    """Those of the layouts that are harmless, ascending."""
    first = machine_of(program)
    return [layout for layout in sorted(layouts) if is_harmless(first, Machine(program, ("layout", layout)))]


def fewest_packs(program):
    """The harmless layouts with the fewest packs that come of joining packs of split_layout [36]."""
    layout = split_layout(program)
    many = len(layout[0])
    joined = [joined_layout(layout, groups) for groups in groupings(many)]
    for fewest in range(many + 1):
        found = harmless_layouts(program, [other for other in joined if len(other[0]) == fewest])
        if found:
            return found
    return []


def groupings(many):
    """All ways to put so many packs into groups: for each pack the number of its group, by their least packs."""
    found = [()]
    for _ in range(many):
        found = [groups + (group,) for groups in found for group in range(max(groups, default=-1) + 2)]
    return found


def joined_layout(layout, groups):
    """The layout in which the packs of each group are joined."""
    packs, doors = layout
    joined = [tuple([place for pack, number in zip(packs, groups) if number == group for place in pack])
              for group in range(max(groups, default=-1) + 1)]
    renumbered = [(door, first_ones([groups[number] for number in numbers])) for door, numbers in doors]
    return (tuple(joined), tuple(renumbered))


def built(program):
    """What is built of a program by shortening, laying and leaving out, None if it cannot be laid so [36]."""
    other = shortened(program)
    layout = layout_to_build(other)
    if layout is None:
        return None
    lot = shaken_lot(other, ("loads",))
    packs = [tuple([place for place in pack if place not in lot]) for pack in layout[0]]
    return ("packed", other, (tuple(packs), layout[1]))


def layout_to_build(program):
    """A harmless layout of the program, None if there is none or too many are to be looked at."""
    if len(doors_of(program)) == 1:
        return flat_layout(program)
    try:
        layouts = good_splits(program)
    except TooMany:
        return None
    return layouts[0] if layouts else None

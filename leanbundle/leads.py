"""Which part leads to which one."""

from leanbundle.programs import doors_of, is_loading, part_named


def links_of(program):
    """For each part the parts that its load and pass rows name."""
    return [[part_named(row) for row in rows if is_loading(row)] for rows in program[0]]


def coming_links_of(program):
    """The same, but from a part with an out row users may come to all doors, too."""
    doors = doors_of(program)
    return [named + doors if ("out",) in rows else named for named, rows in zip(links_of(program), program[0])]


def parts_behind(links, part):
    """The parts to which the links lead from a part; it is one of them only if they lead back to it."""
    found = []
    waiting = list(links[part])
    while waiting:
        named = waiting.pop()
        if named not in found:
            found.append(named)
            waiting.extend(links[named])
    return found

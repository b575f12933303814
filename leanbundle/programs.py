"""Programs, their lots and their layouts: what is one, and what stands in it."""

from leanbundle.errors import BadLayout, BadLot, BadPlace, BadProgram

NAMES = ("a", "b", "c", "d")
MOST_PARTS = 4
MOST_ROWS_OF_PART = 5
MOST_ROWS = 12
MOST_OUTS = 2
MOST_ENTRIES = 3
MOST_OPENS = 4
MOST_NEEDS_OF_GIVE = 1
MOST_NEEDS = 2
MOST_PACKS = 8
NO_PART = -1

# Where the needs stand in a row of these words; other rows have none.
NEEDS_AT = {"give": 2, "show": 1, "late": 3}


def is_integer(thing):
    # A bool is an int for Python, but stands for no integer here.
    return isinstance(thing, int) and not isinstance(thing, bool)


def is_number(thing, many):
    """Whether it numbers one of so many things, from 0."""
    return is_integer(thing) and 0 <= thing < many


def is_name(thing):
    return isinstance(thing, str) and thing in NAMES


def is_tuple(thing, least, most):
    """Whether it is a tuple of least to most items, whatever they are."""
    return isinstance(thing, tuple) and least <= len(thing) <= most


def is_ascending(things):
    """Whether each one is greater than the one before, so that none stands twice."""
    return all([low < high for low, high in zip(things, things[1:])])


def is_need(thing, many_parts):
    return is_tuple(thing, 2, 2) and is_number(thing[0], many_parts) and is_name(thing[1])


def are_needs(thing, many_parts, most):
    return is_tuple(thing, 0, most) and all([is_need(need, many_parts) for need in thing])


def starts_with_word(thing):
    return isinstance(thing, tuple) and len(thing) > 0 and isinstance(thing[0], str)


def is_row(thing, many_parts):
    if not starts_with_word(thing):
        return False
    word = thing[0]
    if word == "load":
        return len(thing) == 2 and is_number(thing[1], many_parts)
    if word == "give":
        return is_give(thing, many_parts)
    if word == "pass":
        return len(thing) == 4 and is_need((thing[2], thing[1]), many_parts) and is_name(thing[3])
    if word == "show":
        return len(thing) == 3 and are_needs(thing[1], many_parts, MOST_NEEDS) and isinstance(thing[2], bool)
    if word == "late":
        return is_late(thing, many_parts)
    return word == "out" and len(thing) == 1


def is_give(row, many_parts):
    if len(row) != 4 or not is_name(row[1]):
        return False
    return are_needs(row[2], many_parts, MOST_NEEDS_OF_GIVE) and isinstance(row[3], bool)


def is_late(row, many_parts):
    if len(row) != 4 or not is_name(row[1]) or not is_integer(row[2]):
        return False
    return (row[2] == NO_PART or is_number(row[2], many_parts)) and are_needs(row[3], many_parts, MOST_NEEDS)


def are_parts(thing):
    if not is_tuple(thing, 1, MOST_PARTS):
        return False
    if not all([is_tuple(part, 0, MOST_ROWS_OF_PART) for part in thing]):
        return False
    rows = [row for part in thing for row in part]
    if len(rows) > MOST_ROWS or not all([is_row(row, len(thing)) for row in rows]):
        return False
    return len([row for row in rows if row[0] == "out"]) <= MOST_OUTS


def are_marks(thing, many_parts):
    return is_tuple(thing, many_parts, many_parts) and all([isinstance(mark, bool) for mark in thing])


def are_entries(thing, many_parts):
    if not is_tuple(thing, 1, MOST_ENTRIES) or not all([is_number(part, many_parts) for part in thing]):
        return False
    return is_ascending(thing)


def are_opens(thing, many_parts):
    return are_needs(thing, many_parts, MOST_OPENS) and is_ascending(thing)


def is_program(thing):
    """Whether any object is a program [4], [5]."""
    if not is_tuple(thing, 4, 4) or not are_parts(thing[0]):
        return False
    many_parts = len(thing[0])
    return are_marks(thing[1], many_parts) and are_entries(thing[2], many_parts) and are_opens(thing[3], many_parts)


def demand_program(thing):
    if not is_program(thing):
        raise BadProgram("not a program")


def is_place(program, thing):
    """Whether any object is the place of a row of a program."""
    parts = program[0]
    return is_tuple(thing, 2, 2) and is_number(thing[0], len(parts)) and is_number(thing[1], len(parts[thing[0]]))


def demand_place(program, thing):
    if not is_place(program, thing):
        raise BadPlace("not the place of a row")


def row_at(program, place):
    return program[0][place[0]][place[1]]


def is_risky(row):
    return row[0] in ("give", "show") and row[-1]


def needs_of(row):
    return row[NEEDS_AT[row[0]]] if row[0] in NEEDS_AT else ()


def is_loading(row):
    """Whether it is a load or pass row."""
    return row[0] in ("load", "pass")


def part_named(row):
    """The part that a load or pass row names."""
    return row[1] if row[0] == "load" else row[2]


def gives_name(row, name):
    return row[0] in ("give", "pass", "late") and row[1] == name


def givers_of(program, need):
    """The places of the rows of the part that give the name."""
    part, name = need
    return [(part, index) for index, row in enumerate(program[0][part]) if gives_name(row, name)]


def is_lot(program, thing):
    """Whether any object is a lot of the program [5]."""
    demand_program(program)
    if not isinstance(thing, tuple) or not all([is_place(program, place) for place in thing]):
        return False
    return is_ascending(thing)


def demand_lot(program, thing):
    if not is_lot(program, thing):
        raise BadLot("not a lot of the program")


def is_layout(program, thing):
    """Whether any object is a layout of the program [6]."""
    demand_program(program)
    if not is_tuple(thing, 2, 2) or not are_packs(program, thing[0]):
        return False
    return are_laid_doors(thing[1], doors_of(program), len(thing[0]))


def are_packs(program, thing):
    if not is_tuple(thing, 0, MOST_PACKS) or not all([isinstance(pack, tuple) for pack in thing]):
        return False
    places = [place for pack in thing for place in pack]
    return all([is_place(program, place) for place in places]) and len(set(places)) == len(places)


def are_laid_doors(thing, doors, many_packs):
    if not is_tuple(thing, len(doors), len(doors)):
        return False
    return all([is_laid_door(laid, door, many_packs) for laid, door in zip(thing, doors)])


def is_laid_door(thing, door, many_packs):
    if not is_tuple(thing, 2, 2) or not is_integer(thing[0]) or thing[0] != door:
        return False
    numbers = thing[1]
    if not isinstance(numbers, tuple) or not all([is_number(number, many_packs) for number in numbers]):
        return False
    return len(set(numbers)) == len(numbers)


def demand_layout(program, thing):
    if not is_layout(program, thing):
        raise BadLayout("not a layout of the program")


def all_rows(program):
    """The places of all rows [7]."""
    demand_program(program)
    return [(part, index) for part, rows in enumerate(program[0]) for index in range(len(rows))]


def doors_of(program):
    """The entries and the parts that late rows name, ascending [6], [7]."""
    demand_program(program)
    named = [row[2] for rows in program[0] for row in rows if row[0] == "late" and row[2] != NO_PART]
    return sorted(set(list(program[2]) + named))

"""What can be made of a program, and how it is done."""

from leanbundle.errors import BadMade
from leanbundle.programs import demand_program, is_layout, is_lot, is_program, starts_with_word

ITSELF = ("lot", ())


def is_made(program, thing):
    """Whether any object is something that can be made of the program [14]."""
    if not starts_with_word(thing):
        return False
    if thing[0] == "lot":
        return len(thing) == 2 and is_lot(program, thing[1])
    if thing[0] == "layout":
        return len(thing) == 2 and is_layout(program, thing[1])
    if len(thing) != 3 or not is_alike(program, thing[1]):
        return False
    if thing[0] == "program":
        return is_lot(thing[1], thing[2])
    return thing[0] == "packed" and is_layout(thing[1], thing[2])


def is_alike(program, thing):
    """Whether any object is a program with as many parts and rows, and the same entries and opens."""
    if not is_program(thing) or sizes_of(thing) != sizes_of(program):
        return False
    return thing[2] == program[2] and thing[3] == program[3]


def sizes_of(program):
    return [len(rows) for rows in program[0]]


def demand_made(program, thing):
    """Raise BadProgram or BadMade, unless they are a program and what can be made of it."""
    demand_program(program)
    if not is_made(program, thing):
        raise BadMade("nothing that can be made of the program")


def way_of_doing(program, made):
    """(source, lot, layout): the program that is done, the lot that it is without, and its layout or None."""
    if made[0] == "lot":
        return (program, made[1], None)
    if made[0] == "layout":
        return (program, (), made[1])
    if made[0] == "program":
        return (made[1], made[2], None)
    return (made[1], (), made[2])

"""Programs, lots and layouts written as texts, and read back."""

from leanbundle.errors import BadText
from leanbundle.programs import MOST_ENTRIES, MOST_NEEDS, MOST_NEEDS_OF_GIVE, MOST_OPENS, MOST_OUTS, MOST_PARTS
from leanbundle.programs import MOST_ROWS, MOST_ROWS_OF_PART, NAMES, NO_PART, demand_layout, demand_lot, demand_program
from leanbundle.programs import is_ascending, is_layout, is_loading, is_lot, is_risky, needs_of, part_named

DIGITS = "0123456789"

# How many lines a program has at least, as it has one part at least.
FEWEST_LINES = 3


def show_program(program):
    """A program as a text [39]."""
    demand_program(program)
    parts, marks, entries, opens = program
    lines = ["entries " + "".join(map(str, entries)), "open " + needs_text(opens)]
    for rows, mark in zip(parts, marks):
        lines.append("part plain" if mark else "part")
        lines.extend([row_text(row) for row in rows])
    return "\n".join(lines)


def row_text(row):
    word = row[0]
    if word == "out":
        return "out"
    if word == "load":
        return f"load {row[1]}"
    if word == "pass":
        return f"pass {row[1]} {row[2]}.{row[3]}"
    needs = needs_text(needs_of(row))
    if word == "late":
        part = "-" if row[2] == NO_PART else str(row[2])
        return f"late {row[1]} {part} {needs}"
    head = f"give {row[1]}" if word == "give" else "show"
    tail = " !" if is_risky(row) else ""
    return f"{head} {needs}{tail}"


def needs_text(needs):
    return ",".join([need_text(need) for need in needs]) if needs else "-"


def need_text(need):
    return f"{need[0]}.{need[1]}"


def place_text(place):
    return f"{place[0]}:{place[1]}"


def show_lot(program, lot):
    """A lot of the program as a text [39]."""
    demand_program(program)
    demand_lot(program, lot)
    return " ".join([place_text(place) for place in lot])


def show_layout(program, layout):
    """A layout of the program as a text [39]."""
    demand_program(program)
    demand_layout(program, layout)
    lines = [" ".join(["pack"] + [place_text(place) for place in pack]) for pack in layout[0]]
    for door, numbers in layout[1]:
        digits = "".join(map(str, numbers)) if numbers else "-"
        lines.append(f"door {door} {digits}")
    return "\n".join(lines)


def read_program(text):
    """The program that a text writes [40]."""
    demand_text(text)
    lines = text.split("\n")
    entries = read_entries(lines[0])
    if entries is None:
        raise BadText(0)
    opens = read_opens(lines[1]) if len(lines) > 1 else None
    if opens is None:
        raise BadText(1)
    if len(lines) < FEWEST_LINES:
        raise BadText(len(lines))
    parts, marks = [], []
    for at, line in enumerate(lines[2:], start=2):
        if not add_line(parts, marks, line):
            raise BadText(at)
    named = [list(entries), [need[0] for need in opens]] + [parts_on(line) for line in lines[2:]]
    for at, numbers in enumerate(named):
        if any([number >= len(parts) for number in numbers]):
            raise BadText(at)
    return (tuple([tuple(rows) for rows in parts]), tuple(marks), entries, opens)


def demand_text(thing):
    if not isinstance(thing, str):
        raise BadText(0)


def add_line(parts, marks, line):
    """Put the part or the row that a line writes to the parts so far; whether it can stand there."""
    if line in ("part", "part plain"):
        parts.append([])
        marks.append(line == "part plain")
        return len(parts) <= MOST_PARTS
    row = read_row(line)
    if row is None or not parts:
        return False
    parts[-1].append(row)
    whole = [other for rows in parts for other in rows]
    if len(parts[-1]) > MOST_ROWS_OF_PART or len(whole) > MOST_ROWS:
        return False
    return whole.count(("out",)) <= MOST_OUTS


def parts_on(line):
    """The numbers of the parts that a line of a part names."""
    row = read_row(line)
    if row is None:
        return []
    numbers = [need[0] for need in needs_of(row)]
    if is_loading(row):
        numbers.append(part_named(row))
    if row[0] == "late":
        numbers.append(row[2])
    return numbers


# The functions that read a piece of text return None if it does not write what they are named for.


def read_entries(line):
    word, _, digits = line.partition(" ")
    numbers = read_numbers(digits)
    if word != "entries" or numbers is None or len(numbers) > MOST_ENTRIES or not is_ascending(numbers):
        return None
    return numbers


def read_opens(line):
    word, _, names = line.partition(" ")
    needs = read_needs(names, MOST_OPENS)
    return needs if word == "open" and needs is not None and is_ascending(needs) else None


def read_row(line):
    words = line.split(" ")
    word = words[0]
    if word == "give" or word == "show":
        return read_risky(words)
    if word == "pass" and len(words) == 3:
        return read_pass(words)
    if word == "late" and len(words) == 4:
        return read_late(words)
    if word == "load" and len(words) == 2:
        part = read_number(words[1])
        return None if part is None else ("load", part)
    return ("out",) if line == "out" else None


def read_risky(words):
    """A give or show row, which may end in the sign of a risky one."""
    risky = words[-1] == "!"
    plain = words[:-1] if risky else words
    if len(plain) == 2 and plain[0] == "show":
        needs = read_needs(plain[1], MOST_NEEDS)
        return None if needs is None else ("show", needs, risky)
    if len(plain) == 3 and plain[0] == "give" and plain[1] in NAMES:
        needs = read_needs(plain[2], MOST_NEEDS_OF_GIVE)
        return None if needs is None else ("give", plain[1], needs, risky)
    return None


def read_pass(words):
    need = read_need(words[2])
    return None if need is None or words[1] not in NAMES else ("pass", words[1]) + need


def read_late(words):
    part = NO_PART if words[2] == "-" else read_number(words[2])
    needs = read_needs(words[3], MOST_NEEDS)
    if words[1] not in NAMES or part is None or needs is None:
        return None
    return ("late", words[1], part, needs)


def read_needs(text, most):
    """The needs, if there are not too many."""
    if text == "-":
        return ()
    needs = [read_need(word) for word in text.split(",")]
    return None if None in needs or len(needs) > most else tuple(needs)


def read_need(word):
    number, _, name = word.partition(".")
    part = read_number(number)
    return None if part is None or name not in NAMES else (part, name)


def read_place(word):
    number, _, other = word.partition(":")
    part, index = read_number(number), read_number(other)
    return None if part is None or index is None else (part, index)


def read_number(text):
    return int(text) if len(text) == 1 and text in DIGITS else None


def read_numbers(text):
    """The numbers that at least one digit writes, each by itself."""
    numbers = [read_number(digit) for digit in text]
    return None if not numbers or None in numbers else tuple(numbers)


def read_lot(program, text):
    """The lot of the program that a text writes [40]."""
    demand_program(program)
    demand_text(text)
    lot = tuple([read_place(word) for word in text.split(" ")]) if text != "" else ()
    if not is_lot(program, lot):
        raise BadText(0)
    return lot


def read_layout(program, text):
    """The layout of the program that a text writes [40]."""
    demand_program(program)
    demand_text(text)
    lines = text.split("\n")
    many = len([line for line in lines if line.startswith("pack")])
    layout = (tuple([read_pack(line) for line in lines[:many]]), tuple([read_door(line) for line in lines[many:]]))
    if not is_layout(program, layout):
        raise BadText(0)
    return layout


def read_pack(line):
    words = line.split(" ")
    return tuple([read_place(word) for word in words[1:]]) if words[0] == "pack" else None


def read_door(line):
    words = line.split(" ")
    if len(words) != 3 or words[0] != "door":
        return None
    return (read_number(words[1]), () if words[2] == "-" else read_numbers(words[2]))

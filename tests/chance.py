"""Programs, lots, layouts and runs drawn by a seeded generator, for the tests."""

import random

from leanbundle.programs import all_rows, doors_of


def drawn_need(draw, many):
    return (draw.randrange(many), draw.choice("aabb" "cd"))


def drawn_needs(draw, many, most):
    return tuple(drawn_need(draw, many) for _ in range(draw.choice([0, 1, 1, most])))


def drawn_row(draw, many):
    word = draw.choice(["load", "give", "give", "pass", "pass", "show", "out", "late", "late"])
    name = draw.choice("aabb" "cd")
    if word == "load":
        return ("load", draw.randrange(many))
    if word == "give":
        return ("give", name, drawn_needs(draw, many, 1), draw.random() < 0.4)
    if word == "pass":
        return ("pass", name) + drawn_need(draw, many)
    if word == "show":
        return ("show", drawn_needs(draw, many, 2), draw.random() < 0.4)
    if word == "late":
        return ("late", name, draw.randrange(-1, many), drawn_needs(draw, many, 2))
    return ("out",)


def drawn_program(draw):
    many = draw.choice([1, 2, 2, 3, 3, 4, 4])
    left, outs, parts = 12, 2, []
    for _ in range(many):
        rows = []
        for _ in range(min(draw.randrange(1, 6), left)):
            row = drawn_row(draw, many)
            if row != ("out",) or outs:
                outs -= row == ("out",)
                rows.append(row)
        left -= len(rows)
        parts.append(tuple(rows))
    marks = tuple(draw.random() < 0.5 for _ in parts)
    entries = tuple(sorted(draw.sample(range(many), min(many, draw.choice([1, 2, 3])))))
    given = sorted({(part, row[1]) for part, rows in enumerate(parts) for row in rows
                    if row[0] in ("give", "pass", "late")} | {(0, "d")})
    opens = tuple(sorted(draw.sample(given, min(len(given), draw.choice([0, 2, 3, 4])))))
    return (tuple(parts), marks, entries, opens)


def drawn_lot(draw, program):
    return tuple(place for place in all_rows(program) if draw.random() < 0.2)


def drawn_layout(draw, program):
    packs = [[] for _ in range(draw.randrange(9))]
    places = all_rows(program)
    if draw.random() < 0.3:
        draw.shuffle(places)
    for place in places:
        if packs and draw.random() < 0.95:
            draw.choice(packs).append(place)
    doors = []
    for door in doors_of(program):
        numbers = draw.sample(range(len(packs)), len(packs))
        doors.append((door, tuple(numbers[:draw.randrange(len(packs) // 2, len(packs) + 1)])))
    return (tuple(tuple(pack) for pack in packs), tuple(doors))


def drawn_run(draw, program):
    steps = [("load", part) for part in program[2]] + [("ask",) + need for need in program[3]] + [("back",)] * 2
    risky = [place for place in all_rows(program)
             if program[0][place[0]][place[1]][0] in ("give", "show") and program[0][place[0]][place[1]][-1]]
    failing = draw.choice(risky) if risky and draw.random() < 0.4 else None
    return ([draw.choice(steps) for _ in range(draw.randrange(12))], failing)


def draws(many):
    """So many generators, always the same ones."""
    return [random.Random(seed) for seed in range(many)]


def given_names(program_parts):
    """The (part, name) that rows of these parts give, ascending, without duplicates."""
    return sorted({(part, row[1]) for part, rows in enumerate(program_parts) for row in rows
                   if row[0] in ("give", "pass", "late")})


def with_given_needs(draw, parts):
    """The same rows, but most needs are of names that are given."""
    given = given_names(parts)

    def kept_or_given(need):
        return draw.choice(given) if given and draw.random() < 0.85 else need

    def row_with(row):
        if row[0] == "pass":
            return row[:2] + kept_or_given(row[2:])
        if row[0] in ("give", "show", "late"):
            at = {"give": 2, "show": 1, "late": 3}[row[0]]
            return row[:at] + (tuple(kept_or_given(need) for need in row[at]),) + row[at + 1:]
        return row

    return [[row_with(row) for row in rows] for rows in parts]


def drawn_small_program(draw, most_rows=6):
    """A program of few rows, entries and open names, in which few needs are lacking from the outset."""
    many = draw.choice([1, 2, 2, 3, 3])
    parts, outs = [[] for _ in range(many)], 2
    for _ in range(draw.randrange(1, min(most_rows, 5 * many) + 1)):
        row = drawn_row(draw, many)
        free = [rows for rows in parts if len(rows) < 5]
        if row != ("out",) or outs:
            outs -= row == ("out",)
            draw.choice(free).append(row)
    parts = with_given_needs(draw, parts)
    given = given_names(parts) or [(0, "a")]
    entries = tuple(sorted(draw.sample(range(many), min(many, draw.choice([1, 2])))))
    opens = tuple(sorted(draw.sample(given, min(len(given), draw.choice([0, 1, 2])))))
    return (tuple(tuple(rows) for rows in parts), tuple(draw.random() < 0.5 for _ in parts), entries, opens)


def drawn_other(draw, program):
    """A program with as many parts and rows, the same entries and opens, and most of the same rows."""
    parts = [list(rows) for rows in program[0]]
    outs = sum(row == ("out",) for rows in parts for row in rows)
    for rows in parts:
        for at, row in enumerate(rows):
            chance = draw.random()
            if chance < 0.12 and row[0] in ("give", "show"):
                rows[at] = row[:-1] + (not row[-1],)
            elif chance < 0.24:
                new = drawn_row(draw, len(parts))
                if new != ("out",) or outs + (row != ("out",)) <= 2:
                    outs += (new == ("out",)) - (row == ("out",))
                    rows[at] = new
    return (tuple(tuple(rows) for rows in parts), tuple(draw.random() < 0.5 for _ in parts)) + program[2:]


def few_of(draw, places):
    return tuple(sorted(draw.sample(places, min(len(places), draw.choice([0, 1, 1, 2, 3])))))


def drawn_made(draw, program, layout_of):
    """Something that is made of a program; layout_of lays a program in a way that is often harmless."""
    word = draw.choice(["lot", "layout", "program", "packed"])
    source = program if word in ("lot", "layout") else drawn_other(draw, program)
    if word in ("lot", "program"):
        what = few_of(draw, all_rows(source))
    else:
        what = layout_of(source) if draw.random() < 0.7 else drawn_layout(draw, source)
    return (word, what) if source is program else (word, source, what)

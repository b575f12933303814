"""The tool: which rows it keeps and why, and which of its options nobody can tell."""

from leanbundle.errors import BadOptions
from leanbundle.leads import links_of, parts_behind
from leanbundle.lots import is_safe
from leanbundle.machine import machine_of
from leanbundle.programs import all_rows, demand_place, demand_program, givers_of, is_ascending, is_loading
from leanbundle.programs import is_risky, needs_of, part_named, row_at
from leanbundle.sure import lacking_needs, shortened, sure_names

OPTIONS = ("loads", "lookups", "marks", "risks")
HARMLESS_OPTIONS = ((), ("loads",))


def is_options(thing):
    """Whether any object is a tuple of options, ascending, without duplicates."""
    if not isinstance(thing, tuple) or not all([isinstance(word, str) and word in OPTIONS for word in thing]):
        return False
    return is_ascending(thing)


def demand_options(thing):
    if not is_options(thing):
        raise BadOptions("not options of the tool")


class Tool:
    """The tool at work on a program: it follows each way by which a row is held, from row to row.

    lacking holds the places of the give rows that are held for their need, as far as the options let them be.
    """

    def __init__(self, program, options, lacking):
        self.source = program
        self.options = options
        self.places = all_rows(program)
        links = links_of(program)
        self.behind = [parts_behind(links, part) for part in range(len(links))]
        # All (why, place) by which a row is asked for itself, whether it stands in a marked part or not.
        self.asked = [(why, place) for place in self.places for why in self.asks(place, lacking)]

    def asks(self, place, lacking):
        row = row_at(self.source, place)
        whys = []
        if row[0] in ("show", "out"):
            whys.append("shows")
        if is_risky(row) and "risks" not in self.options:
            whys.append("risks")
        if place in lacking and "lookups" not in self.options:
            whys.append("lacks")
        return whys

    def waits(self, place):
        """Whether the row is asked for itself only if a name of its part is."""
        return "marks" in self.options and self.source[1][place[0]]

    def first_links(self):
        found = [(why, place) for why, place in self.asked if not self.waits(place)]
        found.extend([("open", giver) for need in self.source[3] for giver in givers_of(self.source, need)])
        if "loads" not in self.options:
            found.extend([("loads", place) for place in self.places if is_loading(row_at(self.source, place))])
        return found

    def links_behind(self, link):
        """All (why, place) that are held by a row that is held itself in this way."""
        why, place = link
        found = [("needs", giver) for need in self.wants(place) for giver in givers_of(self.source, need)]
        if "loads" in self.options:
            found.extend([("loads", other) for other in self.places if self.loads(other, place[0])])
        if why in ("open", "needs") and self.waits(place):
            found.extend([("marked", other) for _, other in self.asked if other[0] == place[0]])
        return found

    def wants(self, place):
        """What the row names: its needs, or what it hands on."""
        row = row_at(self.source, place)
        return (row[2:],) if row[0] == "pass" else needs_of(row)

    def loads(self, place, part):
        """Whether it is a load or pass row by which the part may come to be loaded."""
        row = row_at(self.source, place)
        return is_loading(row) and (part_named(row) == part or part in self.behind[part_named(row)])

    def kept_ways(self):
        """For each row that is kept a shortest way that holds it."""
        ways = {}
        met = {link: True for link in self.first_links()}
        level = [[link] for link in met]
        while level:
            longer = []
            for way in level:
                ways.setdefault(way[-1][1], way)
                for link in self.links_behind(way[-1]):
                    if link not in met:
                        met[link] = True
                        longer.append(way + [link])
            level = longer
        return ways


def give_rows(program):
    return [place for place in all_rows(program) if row_at(program, place)[0] == "give"]


def unsure_rows(program):
    """The places of the give rows with a need that is not sure."""
    return [place for place in give_rows(program)
            if not all([need in sure_names(program, place) for need in needs_of(row_at(program, place))])]


def unfound_rows(program):
    """The places of the give rows with a need that is lacking in some run."""
    lacking = [place for place, _ in lacking_needs(program)]
    return [place for place in give_rows(program) if place in lacking]


def left_out(program, options, lacking):
    """The lot of all rows that the tool does not keep."""
    kept = Tool(program, options, lacking).kept_ways()
    return tuple([place for place in all_rows(program) if place not in kept])


def shaken_lot(program, options):
    """The lot of the tool [29]."""
    demand_program(program)
    demand_options(options)
    return left_out(program, options, unsure_rows(program))


def breaking_program(options):
    """A program of one row for which the lot of the tool is not harmless, None if there is no such program [30]."""
    demand_options(options)
    if options in HARMLESS_OPTIONS:
        return None
    if "marks" in options:
        row = ("show", (), False)
    elif "risks" in options:
        row = ("give", "a", (), True)
    else:
        row = ("give", "a", ((0, "b"),), False)
    return (((row,),), (True,), (0,), ())


def sharp_lot(program):
    """The lot of the tool by ("loads",), if it knows all that is found [30]."""
    demand_program(program)
    return left_out(program, ("loads",), unfound_rows(program))


def reason_for(program, place, options):
    """A shortest way that holds the row, None if the tool does not keep it [31]."""
    demand_program(program)
    demand_place(program, place)
    demand_options(options)
    return Tool(program, options, unsure_rows(program)).kept_ways().get(place)


def false_marks(program):
    """The marked parts whose mark is false: what the tool leaves out by it alone can be told [32]."""
    demand_program(program)
    return [part for part, mark in enumerate(program[1]) if mark and is_false_mark(program, part)]


def is_false_mark(program, part):
    marks = tuple([other == part for other in range(len(program[1]))])
    marked = (program[0], marks) + program[2:]
    return not is_safe(machine_of(marked), shaken_lot(marked, ("loads", "marks")))


def lean(program):
    """(other, lot): the shortened program, and the lot of the tool for it [32]."""
    other = shortened(program)
    return (other, shaken_lot(other, ("loads",)))

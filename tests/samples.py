"""Short words for rows and programs, and ways to spoil them, for the tests."""

OUT = ("out",)
BACK = ("back",)
LACK = ("lack",)
HUGE = 10 ** 60 - 1

# What is made by leaving out nothing, and the state of both ahead of any step.
ITSELF = ("lot", ())
START = ((), ())

STRANGE = [
    None, True, False, 0, 1, -1, 2, HUGE, -HUGE, "", "a", "load", "abcd", b"a", b"", (), [], {}, set(), frozenset(),
    (0,), [0], (0, 0), (0, 0, 0, 0), ("a",), ("load",), ("load", 0), (("load", 0),), ((), ()), ([], None), [[]],
    {"a": 1}, {0}, range(2), object(), int, len, iter(()), BaseException("a"),
]


def load(part):
    return ("load", part)


def ask(part, name):
    return ("ask", part, name)


def give(name, *needs, risky=False):
    return ("give", name, needs, risky)


def hand(name, part, other):
    return ("pass", name, part, other)


def show(*needs, risky=False):
    return ("show", needs, risky)


def late(name, part, *needs):
    return ("late", name, part, needs)


def value(place, *values):
    """What a give row gives."""
    return (place, values)


def shown(place, *values):
    """The event of a show row, or of a late row that is asked for."""
    return ("show", place, values)


def told(place, *values):
    """The event of asking for a value."""
    return ("told", (place, values))


def after(*places):
    """The state in which these rows were done and nothing stands on the stack."""
    return (places, ())


def program_of(*parts, entries=(0,), opens=(), marks=None):
    """A program of these parts, each a list of rows."""
    if marks is None:
        marks = (False,) * len(parts)
    return (tuple(tuple(part) for part in parts), marks, tuple(entries), tuple(opens))


EXAMPLE = program_of([give("a"), load(1)], [show((0, "a"))], entries=(0, 1))

# All kinds of rows, needs, marks, entries and open names, all of them ascending.
FULL = program_of(
    [give("a", risky=True), give("b", (0, "a")), hand("c", 1, "a"), show((0, "c"), (0, "b")), OUT],
    [late("a", 1, (0, "b"), (0, "b")), late("b", -1), show(risky=True), load(1)],
    [],
    entries=(0, 1, 2), opens=((0, "a"), (0, "c"), (1, "a"), (1, "b")), marks=(True, False, True))
FULL_LOT = ((0, 0), (0, 3), (1, 0), (1, 1))
FULL_LAYOUT = (((), ((0, 1), (0, 0)), ((1, 1),)), ((0, (1, 0)), (1, ()), (2, (0, 2, 1))))
FULL_RUN = ([("load", 0), ("load", 1), ("ask", 0, "a"), ("ask", 1, "a"), BACK, BACK], (0, 0))


class Same:
    """Equal to every object."""

    def __eq__(self, other):
        return True

    def __ne__(self, other):
        return False

    def __hash__(self):
        return hash("a")


class Touchy:
    """Neither to be compared, nor hashed, nor tested."""

    def __eq__(self, other):
        raise AssertionError

    def __bool__(self):
        raise AssertionError

    __ne__ = __lt__ = __gt__ = __hash__ = __len__ = __iter__ = __eq__


def spots(thing, way=()):
    """The ways, as tuples of indexes, to all items at any depth of tuples and lists, thing itself first."""
    found = [way]
    if isinstance(thing, (tuple, list)):
        for at, item in enumerate(thing):
            found.extend(spots(item, way + (at,)))
    return found


def item_at(thing, way):
    for at in way:
        thing = thing[at]
    return thing


def changed(thing, way, item):
    """A copy of thing with item at the end of the way."""
    if not way:
        return item
    copied = list(thing)
    copied[way[0]] = changed(thing[way[0]], way[1:], item)
    return tuple(copied) if isinstance(thing, tuple) else copied


def other_kinds(item):
    """What Python takes for equal or nearly equal to item, but is of another kind."""
    if isinstance(item, bool):
        return [int(item), None]
    if isinstance(item, int):
        return [bool(item), str(item), None, HUGE, -HUGE, -2]
    if isinstance(item, str):
        return [item.encode(), item.upper() + "x", "", None, 0, [item], (item,)]
    if isinstance(item, tuple):
        return [list(item), None, item + (None,), item + ((),), {}]
    if isinstance(item, list):
        return [tuple(item), None, {}]
    return [0, (), ""]


def with_odd_objects(thing):
    """All (way, copy) in which one item, at any depth, is an object of a class with odd comparisons."""
    return [(way, changed(thing, way, odd)) for way in spots(thing) for odd in (Same(), Touchy())]


def spoilt(thing):
    """All (way, copy) in which one item, at any depth, is of another kind."""
    return [(way, changed(thing, way, other)) for way in spots(thing) for other in other_kinds(item_at(thing, way))]

"""A second telling of promises 8 to 13, with generators that stop at each call out."""


class Failed(Exception):
    pass


class Model:
    def __init__(self, program, lot=(), layout=None, failing=None):
        self.parts = program[0]
        self.lot = lot
        self.layout = layout
        self.failing = failing
        self.events = []
        self.done = []
        self.stack = []
        self.begun = set()
        self.names = {}
        self.under_way = []
        self.over = False

    def step(self, step):
        if self.over:
            return
        if step[0] == "load":
            self.under_way.append(self.outer(step[1]))
        elif step[0] == "ask":
            self.under_way.append(self.asked(step[1:]))
        if not self.under_way:
            return
        try:
            next(self.under_way[-1])
        except StopIteration:
            self.under_way.pop()
        except Failed as failure:
            self.events.append(("fail", failure.args[0]))
            self.over = True
            self.stack = []

    def state(self):
        return (tuple(self.done), tuple(tuple(frame) for frame in self.stack))

    def outer(self, part):
        if self.layout is None:
            yield from self.rows("part", part, [(part, index) for index in range(len(self.parts[part]))])
            return
        numbers = dict(self.layout[1])[part]
        frame = ["door", part, 0]
        self.stack.append(frame)
        for at, number in enumerate(numbers):
            frame[2] = at + 1
            yield from self.rows("pack", number, self.layout[0][number])
        self.stack.pop()

    def inner(self, part):
        if self.layout is None:
            yield from self.outer(part)

    def rows(self, kind, number, places):
        if number in self.begun:
            return
        self.begun.add(number)
        frame = [kind, number, 0]
        self.stack.append(frame)
        for at, place in enumerate(places):
            if place not in self.lot:
                frame[2] = at + 1
                yield from self.row(place, self.parts[place[0]][place[1]])
        self.stack.pop()

    def row(self, place, row):
        if row[0] == "pass":
            yield from self.inner(row[2])
            self.done.append(place)
            self.names[place[0], row[1]] = ("other", (row[2], row[3]))
            return
        self.done.append(place)
        if row[0] == "load":
            yield from self.inner(row[1])
        elif row[0] == "give":
            self.names[place[0], row[1]] = ("value", (place, self.needed(place, row[2], row[3])))
        elif row[0] == "show":
            self.events.append(("show", place, self.needed(place, row[1], row[2])))
        elif row[0] == "out":
            self.events.append(("out", place))
            yield
        else:
            self.names[place[0], row[1]] = ("late", (place, ()))

    def needed(self, place, needs, risky):
        values = []
        for need in needs:
            kind, value = self.look_up(need, ())
            if kind == "lack":
                raise Failed(place)
            values.append(value)
        if risky and place == self.failing:
            raise Failed(place)
        return tuple(values)

    def look_up(self, need, before):
        kind, what = self.names.get(need, ("lack", None))
        if kind != "other":
            return kind, what
        if need in before:
            return ("lack", None)
        return self.look_up(what, before + (need,))

    def asked(self, need):
        kind, value = self.look_up(need, ())
        if kind == "lack":
            self.events.append(("lack",))
        elif kind == "value":
            self.events.append(("told", value))
        else:
            place = value[0]
            row = self.parts[place[0]][place[1]]
            if row[2] >= 0:
                self.stack.append(["late", place])
                yield from self.outer(row[2])
                self.stack.pop()
            self.events.append(("show", place, self.needed(place, row[3], False)))


def modelled(program, run, lot=(), layout=None):
    """The (events, state) of a run."""
    model = Model(program, lot, layout, run[1])
    for step in run[0]:
        model.step(step)
    return model.events, model.state()

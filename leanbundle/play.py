"""How a program or a layout of it is done, step by step."""

from leanbundle.programs import NO_PART, is_risky, needs_of, row_at


class Frame:
    """Something on the stack: begun and not ended.

    kind is "part", "pack", "door" or "late"; told is its number, or the place of what is late.
    todo holds the places of its rows, or the numbers of the packs of a door; at is the index in
    todo of what comes next.
    """

    def __init__(self, kind, told, todo):
        self.kind = kind
        self.told = told
        self.todo = todo
        self.at = 0
        # The place of a pass row whose turn came, but which waits for the part that it loads.
        self.passing = None

    def twin(self):
        other = Frame(self.kind, self.told, self.todo)
        other.at = self.at
        other.passing = self.passing
        return other

    def as_tuple(self):
        if self.kind == "late":
            return ("late", self.told)
        return (self.kind, self.told, self.at)


class Play:
    """A program without a lot, or (if layout is not None) a layout of it, as it is being done.

    failer is the place of the one row that fails when it comes to its risk, or None.
    """

    def __init__(self, program, lot, layout, failer):
        self.source = program
        self.layout = layout
        self.absent = {place: True for place in lot}
        self.is_laid = layout is not None
        self.packs = layout[0] if self.is_laid else ()
        self.numbers = dict(layout[1]) if self.is_laid else {}
        self.failer = failer
        self.failed = False
        self.seen = []
        # For each row that came to its risk, (place, number), number that of the events ahead of it.
        self.risks = []
        # For each row whose turn came the needs that were lacking then. These are also rows that are not done:
        # a pass row that waits is none of turns.
        self.came = {}
        self.turns = []
        self.frames = []
        # For each call out that has not ended, the height of the stack at which it was made.
        self.calls = []
        # The numbers of the parts (of the packs, where it is laid) that have been begun.
        self.begun = {}
        # For each (part, name) that is given, the place of the row that gave it last.
        self.givers = {}
        # For each place of a give row that gave, the value.
        self.worths = {}

    def branch(self):
        """Another Play at the same point, which goes on by itself; seen, risks and came begin anew in it."""
        twin = Play(self.source, list(self.absent), self.layout, self.failer)
        twin.failed = self.failed
        twin.turns = list(self.turns)
        twin.frames = [frame.twin() for frame in self.frames]
        twin.calls = list(self.calls)
        twin.begun = dict(self.begun)
        twin.givers = {need: self.givers[need] for need in self.givers}
        twin.worths = {place: self.worths[place] for place in self.worths}
        return twin

    def take(self, step):
        """Do a step of the program."""
        if self.failed:
            return
        if step[0] == "load":
            self.load_from_outside(step[1])
        elif step[0] == "ask":
            self.ask_for((step[1], step[2]))
        elif self.calls:
            self.calls.pop()
        self.go_on()

    def stack(self):
        return tuple([frame.as_tuple() for frame in self.frames])

    def go_on(self):
        """Do what is on the stack, until nothing is left or the top one is held up by a call out."""
        while self.frames and not self.is_called_out():
            self.advance(self.frames[-1])

    def is_called_out(self):
        return len(self.calls) > 0 and self.calls[-1] == len(self.frames)

    def advance(self, frame):
        if frame.passing is not None:
            self.hand_on(frame)
        elif frame.kind == "late":
            self.frames.pop()
            self.show(frame.told, row_at(self.source, frame.told)[3], False)
        elif frame.at == len(frame.todo):
            self.frames.pop()
        else:
            frame.at += 1
            self.do_next(frame, frame.todo[frame.at - 1])

    def do_next(self, frame, what):
        if frame.kind == "door":
            self.begin("pack", what, self.packs[what])
        elif what not in self.absent:
            self.do_row(frame, what)

    def do_row(self, frame, place):
        row = row_at(self.source, place)
        self.came[place] = [need for need in needs_of(row) if self.giver_of(need) is None]
        if row[0] == "pass":
            frame.passing = place
            self.load_from_row(row[2])
            return
        self.turns.append(place)
        if row[0] == "load":
            self.load_from_row(row[1])
        elif row[0] == "give":
            self.give(place, row)
        elif row[0] == "show":
            self.show(place, row[1], is_risky(row))
        elif row[0] == "out":
            self.seen.append(("out", place))
            self.calls.append(len(self.frames))
        else:
            self.givers[(place[0], row[1])] = place

    def load_from_outside(self, part):
        """Load a part for a user or for something late."""
        if self.is_laid:
            # A door is looked through anew each time: some of its packs may not have been begun.
            self.frames.append(Frame("door", part, self.numbers[part]))
        else:
            self.begin_part(part)

    def load_from_row(self, part):
        if not self.is_laid:
            self.begin_part(part)

    def begin_part(self, part):
        self.begin("part", part, [(part, index) for index in range(len(self.source[0][part]))])

    def begin(self, kind, number, places):
        if number not in self.begun:
            self.begun[number] = True
            self.frames.append(Frame(kind, number, places))

    def hand_on(self, frame):
        """Let the pass row that waited give its name."""
        place = frame.passing
        frame.passing = None
        self.turns.append(place)
        self.givers[(place[0], row_at(self.source, place)[1])] = place

    def give(self, place, row):
        found = self.look_up(row[2])
        if found is None or self.fails_at_risk(place, is_risky(row)):
            self.fail_at(place)
        else:
            self.worths[place] = (place, found)
            self.givers[(place[0], row[1])] = place

    def show(self, place, needs, risky):
        found = self.look_up(needs)
        if found is None or self.fails_at_risk(place, risky):
            self.fail_at(place)
        else:
            self.seen.append(("show", place, found))

    def fails_at_risk(self, place, risky):
        """Let a row whose needs are found come to its risk, if it is risky; whether it fails there."""
        if risky:
            self.risks.append((place, len(self.seen)))
        return risky and place == self.failer

    def fail_at(self, place):
        self.seen.append(("fail", place))
        self.failed = True
        self.frames = []
        self.calls = []

    def ask_for(self, need):
        giver = self.giver_of(need)
        if giver is None:
            self.seen.append(("lack",))
        elif giver in self.worths:
            self.seen.append(("told", self.worths[giver]))
        else:
            self.frames.append(Frame("late", giver, ()))
            part = row_at(self.source, giver)[2]
            if part != NO_PART:
                self.load_from_outside(part)

    def giver_of(self, need):
        """The place of the give or late row that the need comes to now, None if it is lacking."""
        met = {}
        while need in self.givers and need not in met:
            met[need] = True
            giver = self.givers[need]
            row = row_at(self.source, giver)
            if row[0] != "pass":
                return giver
            need = (row[2], row[3])
        return None

    def look_up(self, needs):
        """The tuple of the values of the needs, None if one of them is lacking."""
        givers = [self.giver_of(need) for need in needs]
        if None in givers:
            return None
        return tuple([self.worths.get(giver, (giver, ())) for giver in givers])

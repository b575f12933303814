"""A live bundle: a program, a lot and a run, and what was done to them."""

from leanbundle.errors import BadPart, BadPlace, BadStep, BadValue, NothingToUndo
from leanbundle.lots import is_safe, without
from leanbundle.machine import machine_of
from leanbundle.play import Play
from leanbundle.programs import demand_program, is_number, is_place
from leanbundle.runs import is_risky_place, is_step, state_of
from leanbundle.tool import shaken_lot


class Bundle:
    """A program, a lot, and a run of the program without the lot [37], [38]."""

    def __init__(self, program):
        demand_program(program)
        self._program = program
        self._lot = ()
        self._failing = None
        self._steps = []
        # The Play ahead of the first step, and for each step the one behind it, which has seen its events alone.
        # None of them is changed here once it stands in the list.
        self._plays = [Play(program, (), None, None)]
        # For each change that can be taken back its word, and what stood before: nothing for a step, the
        # program for a mark, and all but the program for a run that was begun anew.
        self._past = []

    def load(self, part):
        """Take the step that loads an entry; the list of the events that it adds."""
        return self._take(("load", part))

    def ask(self, part, name):
        """Take the step that asks for an open name; the list of the events that it adds."""
        return self._take(("ask", part, name))

    def back(self):
        """Take a step back; the list of the events that it adds."""
        return self._take(("back",))

    def _take(self, step):
        if not is_step(self._program, step):
            raise BadStep("not a step of the program")
        play = self._plays[-1].branch()
        play.take(step)
        self._past.append(("step", None))
        self._steps.append(step)
        self._plays.append(play)
        return list(play.seen)

    def leave(self, place):
        """Put a row to the lot, and begin the run anew."""
        if place not in self:
            raise BadPlace("not the place of a row that is not in the lot")
        self._begin_anew(tuple(sorted(self._lot + (place,))), self._failing)

    def take_back(self, place):
        """Take a row out of the lot, and begin the run anew."""
        if not is_place(self._program, place) or place in self:
            raise BadPlace("not the place of a row of the lot")
        self._begin_anew(without(self._lot, (place,)), self._failing)

    def fail(self, place):
        """Set the failing row, or None, and begin the run anew."""
        if place is not None and not is_risky_place(self._program, place):
            raise BadPlace("neither None nor the place of a risky row")
        self._begin_anew(self._lot, place)

    def mark(self, part, value):
        """Change a mark of the program; lot and run stay."""
        if not is_number(part, len(self._program[0])):
            raise BadPart("not the number of a part")
        if not isinstance(value, bool):
            raise BadValue("neither True nor False")
        self._past.append(("mark", self._program))
        marks = self._program[1]
        self._program = (self._program[0], marks[:part] + (value,) + marks[part + 1:]) + self._program[2:]

    def shake(self, options):
        """Put the lot of the tool in the place of the lot, and begin the run anew."""
        self._begin_anew(shaken_lot(self._program, options), self._failing)

    def _begin_anew(self, lot, failing):
        self._past.append(("anew", (self._lot, self._failing, self._steps, self._plays)))
        self._lot = lot
        self._failing = failing
        self._steps = []
        self._plays = [Play(self._program, lot, None, failing)]

    def undo(self):
        """Take back the last change that has not been taken back."""
        if not self._past:
            raise NothingToUndo("no change to take back")
        word, before = self._past.pop()
        if word == "step":
            self._steps.pop()
            self._plays.pop()
        elif word == "mark":
            self._program = before
        else:
            self._lot, self._failing, steps, plays = before
            # A copy of the bundle may go back to the same lists.
            self._steps = list(steps)
            self._plays = list(plays)

    def events(self):
        """The list of all events of the run."""
        return [event for play in self._plays for event in play.seen]

    def state(self):
        """The state behind the run."""
        return state_of(self._plays[-1])

    def lot(self):
        """The lot."""
        return self._lot

    def program(self):
        """The program as it is marked now."""
        return self._program

    def safe(self):
        """Whether the lot is harmless for the program."""
        return is_safe(machine_of(self._program), self._lot)

    @property
    def failing(self):
        """The place of the failing row, or None."""
        return self._failing

    def __len__(self):
        return len(self._steps)

    def __contains__(self, place):
        return is_place(self._program, place) and place not in self._lot

    def __eq__(self, other):
        return (isinstance(other, Bundle) and self._program == other._program and self._lot == other._lot
                and self._failing == other._failing and self._steps == other._steps)

    def copy(self):
        """Another bundle that stands where this one stands, and goes on by itself."""
        other = Bundle(self._program)
        other._lot = self._lot
        other._failing = self._failing
        other._steps = list(self._steps)
        other._plays = list(self._plays)
        other._past = list(self._past)
        return other

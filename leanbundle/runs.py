"""What the users of a run see, and the state that it leaves behind."""

from leanbundle.errors import BadRun
from leanbundle.play import Play
from leanbundle.programs import demand_layout, demand_lot, demand_program
from leanbundle.programs import is_integer, is_name, is_place, is_risky, is_tuple, row_at, starts_with_word

MOST_STEPS = 100


def is_step(program, thing):
    """Whether any object is a step of the program."""
    if not starts_with_word(thing):
        return False
    if thing[0] == "load":
        return len(thing) == 2 and is_integer(thing[1]) and thing[1] in program[2]
    if thing[0] == "ask":
        return len(thing) == 3 and is_integer(thing[1]) and is_name(thing[2]) and thing[1:] in program[3]
    return thing[0] == "back" and len(thing) == 1


def steps_of(program):
    """All steps of the program: the loads, the asks, both ascending, and the step back."""
    return [("load", part) for part in program[2]] + [("ask",) + need for need in program[3]] + [("back",)]


def is_risky_place(program, thing):
    """Whether any object is the place of a risky row of the program."""
    return is_place(program, thing) and is_risky(row_at(program, thing))


def wrong_place(program, thing):
    """Where any object is no run of the program, as BadRun tells it; None if it is one."""
    if not is_tuple(thing, 2, 2) or not isinstance(thing[0], list):
        return -1
    steps, failing = thing
    for at, step in enumerate(steps):
        if at >= MOST_STEPS or not is_step(program, step):
            return at
    if failing is not None and not is_risky_place(program, failing):
        return -1
    return None


def is_run(program, thing):
    """Whether any object is a run of the program."""
    return wrong_place(program, thing) is None


def demand_run(program, thing):
    place = wrong_place(program, thing)
    if place is not None:
        raise BadRun(place)


def play_run(program, lot, layout, run):
    """The Play behind a run of the program without the lot, or laid if layout is not None."""
    steps, failing = run
    play = Play(program, lot, layout, failing)
    for step in steps:
        play.take(step)
    return play


def state_of(play):
    return (tuple(play.turns), play.stack())


def play_without(program, run, lot):
    demand_program(program)
    demand_run(program, run)
    demand_lot(program, lot)
    return play_run(program, lot, None, run)


def play_laid(program, layout, run):
    demand_program(program)
    demand_layout(program, layout)
    demand_run(program, run)
    return play_run(program, (), layout, run)


def events_of(program, run, *, lot=()):
    """The events of a run of the program without the lot, in order [11], [12]."""
    return play_without(program, run, lot).seen


def state_after(program, run, *, lot=()):
    """The state (done, stack) behind a run of the program without the lot [11], [12]."""
    return state_of(play_without(program, run, lot))


def layout_events(program, layout, run):
    """The events of a run of the program, laid [13]."""
    return play_laid(program, layout, run).seen


def layout_state(program, layout, run):
    """The state (done, stack) behind a run of the program, laid [13]."""
    return state_of(play_laid(program, layout, run))

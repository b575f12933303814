"""A desk that holds a bundle and answers rows with texts."""

from leanbundle.answers import answer_to
from leanbundle.audiences import least_audiences
from leanbundle.errors import BadCommand
from leanbundle.live import Bundle
from leanbundle.lots import greatest_lots
from leanbundle.packs import flat_layout, split_layout
from leanbundle.texts import need_text, place_text, read_need, read_number, read_place, read_program
from leanbundle.texts import show_layout, show_lot, show_program
from leanbundle.tool import false_marks, reason_for

FIRST_PROGRAM = (((),), (False,), (0,), ())

# Stands in the place of a line feed in a row and in an answer.
LINE_SIGN = " / "


def demand_read(thing):
    """Raise BadCommand, if a piece of a row does not write what is asked for."""
    if thing is None:
        raise BadCommand("not a row that a desk answers")
    return thing


def options_in(text):
    return () if text == "-" else tuple(text.split(","))


def in_one_line(text):
    return LINE_SIGN.join(text.split("\n"))


def events_text(events):
    return "; ".join([event_text(event) for event in events]) if events else "nothing"


def event_text(event):
    if event[0] == "lack":
        return "lack"
    place = event[1][0] if event[0] == "told" else event[1]
    return f"{event[0]} {place_text(place)}"


def lot_text(program, lot):
    return show_lot(program, lot) if lot else "nothing"


def step_text(step):
    return f"load {step[1]}" if step[0] == "load" else f"ask {need_text(step[1:])}"


# What a desk answers to a word alone.


def say_undo(bundle):
    bundle.undo()
    return "ok"


def say_back(bundle):
    return events_text(bundle.back())


def say_safe(bundle):
    word, what = answer_to(bundle.program(), ("lot", bundle.lot()))
    return "yes" if word == "same" else f"no {len(what[0])}"


def say_lot(bundle):
    return lot_text(bundle.program(), bundle.lot())


def say_greatest(bundle):
    program = bundle.program()
    return " | ".join([lot_text(program, lot) for lot in greatest_lots(program)])


def say_marks(bundle):
    numbers = false_marks(bundle.program())
    return " ".join(map(str, numbers)) if numbers else "none"


def say_who(bundle):
    audiences = least_audiences(bundle.program(), ("lot", bundle.lot()))
    texts = [", ".join([step_text(step) for step in audience]) for audience in audiences]
    return " | ".join(texts) if texts else "nobody"


def say_flat(bundle):
    return in_one_line(show_layout(bundle.program(), flat_layout(bundle.program())))


def say_split(bundle):
    return in_one_line(show_layout(bundle.program(), split_layout(bundle.program())))


def say_show(bundle):
    return in_one_line(show_program(bundle.program()))


# What a desk answers to a word, one blank and a text.


def say_leave(bundle, text):
    bundle.leave(demand_read(read_place(text)))
    return "ok"


def say_take(bundle, text):
    bundle.take_back(demand_read(read_place(text)))
    return "ok"


def say_fail(bundle, text):
    bundle.fail(None if text == "-" else demand_read(read_place(text)))
    return "ok"


def say_shake(bundle, text):
    bundle.shake(options_in(text))
    return "ok"


def say_load(bundle, text):
    return events_text(bundle.load(demand_read(read_number(text))))


def say_ask(bundle, text):
    part, name = demand_read(read_need(text))
    return events_text(bundle.ask(part, name))


def say_why(bundle, text):
    word, blank, options = text.partition(" ")
    place = demand_read(read_place(word) if blank else None)
    way = reason_for(bundle.program(), place, options_in(options))
    return "gone" if way is None else " < ".join([place_text(link[1]) for link in way])


def say_mark(bundle, text):
    bundle.mark(demand_read(read_number(text)), True)
    return "ok"


def say_unmark(bundle, text):
    bundle.mark(demand_read(read_number(text)), False)
    return "ok"


ALONE = {
    "undo": say_undo, "back": say_back, "safe": say_safe, "lot": say_lot, "greatest": say_greatest,
    "marks": say_marks, "who": say_who, "flat": say_flat, "split": say_split, "show": say_show,
}

WITH_TEXT = {
    "leave": say_leave, "take": say_take, "fail": say_fail, "shake": say_shake, "load": say_load, "ask": say_ask,
    "why": say_why, "mark": say_mark, "unmark": say_unmark,
}


class Desk:
    """A desk that holds a bundle [41], [42]."""

    def __init__(self):
        self.bundle = Bundle(FIRST_PROGRAM)

    def say(self, row):
        """The text that answers a row."""
        if not isinstance(row, str):
            raise BadCommand("not a text")
        word, blank, text = row.partition(" ")
        if blank == "" and word in ALONE:
            answer = ALONE[word]
            return answer(self.bundle)
        if blank == " " and word in WITH_TEXT:
            deed = WITH_TEXT[word]
            return deed(self.bundle, text)
        if blank == " " and word == "program":
            self.bundle = Bundle(read_program(text.replace(LINE_SIGN, "\n")))
            return "ok"
        raise BadCommand("not a row that a desk answers")

"""Whether anybody could tell a program and what was made of it apart: the answer, and who shows what."""

from leanbundle.machine import FAILED, Machine, compare, is_like, machine_of
from leanbundle.made import demand_made, way_of_doing
from leanbundle.programs import is_integer, is_tuple, starts_with_word
from leanbundle.runs import is_run, play_run


def answer_to(program, made):
    """("same", all pairs of states), or ("other", a shortest run with unlike events) [16]."""
    demand_made(program, made)
    first, second = machine_of(program), Machine(program, made)
    pairs, run = compare(first, second)
    if run is None:
        return ("same", sorted([(first.states[one], second.states[other]) for one, other in pairs]))
    return ("other", run)


def answer_holds(program, made, answer):
    """Whether any object is an answer that shows what it says [16]."""
    demand_made(program, made)
    if not is_tuple(answer, 2, 2) or not isinstance(answer[0], str):
        return False
    if answer[0] == "same":
        return are_the_pairs(program, made, answer[1])
    return answer[0] == "other" and is_run(program, answer[1]) and has_unlike_events(program, made, answer[1])


def are_the_pairs(program, made, thing):
    if not are_pairs(thing):
        return False
    word, pairs = answer_to(program, made)
    return word == "same" and set(thing) == set(pairs)


def has_unlike_events(program, made, run):
    source, lot, layout = way_of_doing(program, made)
    return play_run(program, (), None, run).seen != play_run(source, lot, layout, run).seen


def paper_holds(program, made, pairs):
    """Whether any object is a list of pairs of states that shows that what was made is harmless [17]."""
    demand_made(program, made)
    if not are_pairs(pairs):
        return False
    first, second = machine_of(program), Machine(program, made)
    first.explore()
    second.explore()
    if not all([pair[0] in first.numbers and pair[1] in second.numbers for pair in pairs]):
        return False
    return is_closed(first, second, [(first.numbers[one], second.numbers[other]) for one, other in pairs])


def is_closed(first, second, pairs):
    """Whether the pair of the first states is among these pairs of numbers, and no step leads out of them."""
    listed = {pair: True for pair in pairs}
    return (0, 0) in listed and all([leads_into(first, second, pair, listed) for pair in listed])


def leads_into(first, second, pair, listed):
    """Whether each step from the pair is alike in both and leads to a listed pair, or to failures."""
    for one, other in zip(first.outcomes_of(pair[0]), second.outcomes_of(pair[1])):
        if not is_like(one, other):
            return False
        if one[2] != FAILED and (one[2], other[2]) not in listed:
            return False
    return True


def are_pairs(thing):
    """Whether any object is a list of pairs of what has the form of a state."""
    if not isinstance(thing, list) or not all([is_tuple(pair, 2, 2) for pair in thing]):
        return False
    return all([is_state(state) for pair in thing for state in pair])


def is_state(thing):
    """Whether any object has the form of a state, of whatever program."""
    if not is_tuple(thing, 2, 2) or not isinstance(thing[0], tuple) or not isinstance(thing[1], tuple):
        return False
    return all([is_two_integers(place) for place in thing[0]]) and all([is_frame(frame) for frame in thing[1]])


def is_frame(thing):
    if not starts_with_word(thing):
        return False
    if thing[0] == "late":
        return len(thing) == 2 and is_two_integers(thing[1])
    return is_two_integers(thing[1:])


def is_two_integers(thing):
    return is_tuple(thing, 2, 2) and is_integer(thing[0]) and is_integer(thing[1])

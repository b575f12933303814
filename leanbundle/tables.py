"""The user table: all that can come of what was made, as far as users could tell."""

from leanbundle.machine import FAILED, Machine
from leanbundle.made import demand_made


def user_table(program, made):
    """The tuple of the classes of states, each the tuple of the outcomes of all steps [18]."""
    demand_made(program, made)
    outcomes = Machine(program, made).explore()
    kinds = kinds_of(outcomes)
    # States of one class lead to the same classes, so whatever class is new is met behind the first state of
    # one: in the order of the states, the classes are met as they would be from class to class.
    return tuple([class_at(outcomes[kinds.index(kind)], kinds) for kind in range(max(kinds) + 1)])


def class_at(outcomes, kinds):
    return tuple([(outcome[0], outcome[1], kind_behind(outcome, kinds)) for outcome in outcomes])


def kind_behind(outcome, kinds):
    return FAILED if outcome[2] == FAILED else kinds[outcome[2]]


def kinds_of(outcomes):
    """For each state the number of its class, numbered in the order of their first states."""
    kinds = grouped(told_numbers(outcomes))
    finer = split_by_next(outcomes, kinds)
    while finer != kinds:
        kinds = finer
        finer = split_by_next(outcomes, kinds)
    return kinds


def told_numbers(outcomes):
    """For each state a tuple of numbers, one for each step: equal ones stand for equal events and risks."""
    # Values may be nested deeper than a key should be, so they are looked for in a list.
    told = []
    for steps in outcomes:
        for outcome in steps:
            if outcome[:2] not in told:
                told.append(outcome[:2])
    return [tuple([told.index(outcome[:2]) for outcome in steps]) for steps in outcomes]


def split_by_next(outcomes, kinds):
    """The classes split by the classes to which each step leads."""
    behind = [tuple([kind_behind(outcome, kinds) for outcome in steps]) for steps in outcomes]
    return grouped(list(zip(kinds, behind)))


def grouped(things):
    """For each one the number of those equal to it, in the order of the first ones."""
    numbers = {}
    for thing in things:
        numbers.setdefault(thing, len(numbers))
    return [numbers[thing] for thing in things]

"""Which users, told by the steps that they take, could tell a program and what was made of it apart."""

from leanbundle.lots import choices_of, is_part
from leanbundle.machine import Machine, compare, machine_of
from leanbundle.made import demand_made


def least_audiences(program, made):
    """The audiences that can tell, and no part of them can [23]."""
    _, tellers = sorted_out(program, made)
    return sorted(tellers)


def blind_audiences(program, made):
    """The audiences that cannot tell, and are part of no other one that cannot [23]."""
    audiences, tellers = sorted_out(program, made)
    blind = [audience for audience in audiences if not has_part(audience, tellers)]
    return sorted([audience for audience in blind
                   if not any([is_part(audience, other) for other in blind if other != audience])])


def sorted_out(program, made):
    """(audiences, tellers): all audiences, and the least ones that can tell."""
    demand_made(program, made)
    first, second = machine_of(program), Machine(program, made)
    steps = sorted([step for step in first.steps if step != ("back",)])
    audiences = sorted(choices_of(steps), key=len)
    tellers = []
    if can_tell(first, second, steps, steps):
        for audience in audiences:
            if not has_part(audience, tellers) and can_tell(first, second, steps, audience):
                tellers.append(audience)
    return (audiences, tellers)


def has_part(audience, others):
    return any([is_part(other, audience) for other in others])


def can_tell(first, second, steps, audience):
    """Whether some run with the steps of the audience, of these steps, and steps back has unlike events."""
    return compare(first, second, [step for step in steps if step not in audience])[1] is not None

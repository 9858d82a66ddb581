"""Point 10: what's told of papers and people."""

from paperoffice.office import has
from paperoffice.refusals import NOT_ONE_THAT_MAY_BE
from paperoffice.rights import refusal_to_act


def with_count(numbers):
    """These numbers, and how many they are ahead of them."""
    return [len(numbers)] + numbers


def may_act_for_themselves(office, number, paper):
    return refusal_to_act(office, number, number, paper) == 0


def tell_paper(office, number):
    if not has(office.papers, number):
        return [NOT_ONE_THAT_MAY_BE]
    paper = office.papers[number]
    place = [paper.step, paper.turn, paper.level, paper.due]
    return [paper.state, paper.procedure, paper.writer] + place + [len(paper.acts)]


def tell_acts(office, number):
    if not has(office.papers, number):
        return [NOT_ONE_THAT_MAY_BE]
    paper = office.papers[number]
    told = [len(paper.acts)]
    for act in paper.acts:
        told.extend([act.step, act.turn, act.by, act.behalf, act.signed])
    return told


def tell_who(office, number):
    if not has(office.papers, number):
        return [NOT_ONE_THAT_MAY_BE]
    paper = office.papers[number]
    return with_count([each for each in range(len(office.people)) if may_act_for_themselves(office, each, paper)])


def tell_waiting(office, number):
    if not has(office.people, number):
        return [NOT_ONE_THAT_MAY_BE]
    waiting = [each for each, paper in enumerate(office.papers) if may_act_for_themselves(office, number, paper)]
    return with_count(waiting)

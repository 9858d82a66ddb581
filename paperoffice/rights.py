"""Point 6: who may act on a paper, and for whom."""

from paperoffice.office import NOBODY, UNDER_WAY, current_step
from paperoffice.refusals import ACTED_IN_A_ROLE_KEPT_APART, ACTED_IN_THIS_ROUND, NOT_ENTITLED
from paperoffice.refusals import NOT_STANDING_IN, TOO_LATE, WRITER_MAY_NOT


def stands_for(office, by, behalf):
    """Whether by is behalf, or may act for them today."""
    if by == behalf:
        return True
    person = office.people[behalf]
    return person.stand_in == by and office.today <= person.stand_in_until


def holds(person, role):
    return (person.roles >> role) & 1 == 1


def is_within_levels_above(office, chief, worker, levels):
    """Whether chief is worker, or stands at most so many levels above them."""
    reached = worker
    climbed = 0
    while reached != NOBODY and climbed <= levels:
        if reached == chief:
            return True
        reached = office.people[reached].chief
        climbed = climbed + 1
    return False


def is_entitled(office, number, role, level):
    for holder, person in enumerate(office.people):
        if holds(person, role) and is_within_levels_above(office, number, holder, level):
            return True
    return False


def has_part_in(act, by, behalf):
    """Whether one of the two did this act, or had it done for them."""
    return act.by in (by, behalf) or act.behalf in (by, behalf)


def acted_in_this_round(paper, by, behalf):
    for act in paper.acts:
        if act.step == paper.step and act.turn == paper.turn and has_part_in(act, by, behalf):
            return True
    return False


def acted_in_a_role_kept_apart(office, paper, by, behalf):
    steps = office.procedures[paper.procedure]
    role = steps[paper.step].role
    for act in paper.acts:
        if (steps[act.step].role, role) in office.kept_apart and has_part_in(act, by, behalf):
            return True
    return False


def refusal_to_act(office, by, behalf, paper):
    """The first reason why by may not act on the paper for behalf, or 0 if they may."""
    if paper.state != UNDER_WAY:
        return TOO_LATE
    step = current_step(office, paper)
    if not stands_for(office, by, behalf):
        return NOT_STANDING_IN
    if not is_entitled(office, behalf, step.role, paper.level):
        return NOT_ENTITLED
    if step.writer_may_sign == 0 and paper.writer in (by, behalf):
        return WRITER_MAY_NOT
    if acted_in_this_round(paper, by, behalf):
        return ACTED_IN_THIS_ROUND
    if acted_in_a_role_kept_apart(office, paper, by, behalf):
        return ACTED_IN_A_ROLE_KEPT_APART
    return 0

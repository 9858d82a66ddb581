"""Points 4, 7 and 8: filing a paper, signing or refusing it, and withdrawing it."""

from paperoffice.office import APPROVED, NOWHERE, REFUSED, UNDER_WAY, WITHDRAWN
from paperoffice.office import Act, Paper, current_step, due_from_today, has
from paperoffice.refusals import FULL, NOT_ONE_THAT_MAY_BE, NOT_THE_WRITER, TOO_LATE
from paperoffice.rights import refusal_to_act

MOST_PAPERS = 256
LAST_ROUND = 10


def come_to(office, paper, number):
    """The paper comes to the step with this number, in the round it is in."""
    paper.step = number
    paper.level = 0
    paper.due = due_from_today(office, paper)


def file_paper(office, writer, procedure):
    if not has(office.people, writer) or not has(office.procedures, procedure):
        return NOT_ONE_THAT_MAY_BE
    if len(office.papers) == MOST_PAPERS:
        return FULL
    paper = Paper(writer, procedure)
    come_to(office, paper, 0)
    office.papers.append(paper)
    return len(office.papers) - 1


def note_act(paper, by, behalf, signed):
    paper.acts.append(Act(paper.step, paper.turn, by, behalf, signed))


def signatures_in_this_round(paper):
    """How many have signed at the step where the paper is, in the round it is in."""
    return sum([act.signed for act in paper.acts if act.step == paper.step and act.turn == paper.turn])


def go_on(office, paper):
    if paper.step + 1 == len(office.procedures[paper.procedure]):
        paper.state = APPROVED
    else:
        come_to(office, paper, paper.step + 1)


def go_back(office, paper):
    step = current_step(office, paper)
    if step.goes_back_to == NOWHERE or paper.turn == LAST_ROUND:
        paper.state = REFUSED
    else:
        paper.turn = paper.turn + 1
        come_to(office, paper, step.goes_back_to)


def may_act(office, by, behalf, number):
    if not has(office.people, by) or not has(office.people, behalf) or not has(office.papers, number):
        return NOT_ONE_THAT_MAY_BE
    return refusal_to_act(office, by, behalf, office.papers[number])


def sign_paper(office, by, behalf, number):
    refusal = may_act(office, by, behalf, number)
    if refusal < 0:
        return refusal
    paper = office.papers[number]
    note_act(paper, by, behalf, 1)
    if signatures_in_this_round(paper) == current_step(office, paper).signatures:
        go_on(office, paper)
    return paper.state


def refuse_paper(office, by, behalf, number):
    refusal = may_act(office, by, behalf, number)
    if refusal < 0:
        return refusal
    paper = office.papers[number]
    note_act(paper, by, behalf, 0)
    go_back(office, paper)
    return paper.state


def withdraw_paper(office, by, number):
    if not has(office.people, by) or not has(office.papers, number):
        return NOT_ONE_THAT_MAY_BE
    paper = office.papers[number]
    if paper.state != UNDER_WAY:
        return TOO_LATE
    if paper.writer != by:
        return NOT_THE_WRITER
    paper.state = WITHDRAWN
    return 0

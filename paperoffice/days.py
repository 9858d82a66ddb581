"""Point 9: days that pass, and papers that rise to a chief or lapse."""

from paperoffice.office import LAPSED, UNDER_WAY, due_from_today
from paperoffice.refusals import NOT_ONE_THAT_MAY_BE

MOST_DAYS_IN_ONE_CALL = 30
HIGHEST_LEVEL = 5


def is_late(office, paper):
    return paper.state == UNDER_WAY and paper.due < office.today


def rise_or_lapse(office, paper):
    if paper.level < HIGHEST_LEVEL:
        paper.level = paper.level + 1
        paper.due = due_from_today(office, paper)
    else:
        paper.state = LAPSED


def pass_one_day(office):
    office.today = office.today + 1
    for paper in office.papers:
        if is_late(office, paper):
            rise_or_lapse(office, paper)


def pass_days(office, count):
    if not 1 <= count <= MOST_DAYS_IN_ONE_CALL:
        return NOT_ONE_THAT_MAY_BE
    for passed in range(count):
        pass_one_day(office)
    return office.today

"""What an office holds: people, procedures, papers, and the day it is."""

NOBODY = -1
NOWHERE = -1

LAST_ROLE = 15

UNDER_WAY = 0
APPROVED = 1
REFUSED = 2
WITHDRAWN = 3
LAPSED = 4


class Person:
    """Somebody of the office; chief and stand_in are people's numbers, or NOBODY."""

    def __init__(self, roles, chief):
        self.roles = roles
        self.chief = chief
        self.stand_in = NOBODY
        self.stand_in_until = 0


class Step:
    """One step of a procedure; goes_back_to is a step's number, or NOWHERE."""

    def __init__(self, role, signatures, days, writer_may_sign, goes_back_to):
        self.role = role
        self.signatures = signatures
        self.days = days
        self.writer_may_sign = writer_may_sign
        self.goes_back_to = goes_back_to


class Act:
    """What somebody did on a paper; signed is 1, or 0 where it was refused."""

    def __init__(self, step, turn, by, behalf, signed):
        self.step = step
        self.turn = turn
        self.by = by
        self.behalf = behalf
        self.signed = signed


class Paper:
    """A paper; turn is the round it is in ("round" is a name of Python's own)."""

    def __init__(self, writer, procedure):
        self.writer = writer
        self.procedure = procedure
        self.state = UNDER_WAY
        self.step = 0
        self.turn = 0
        self.level = 0
        self.due = 0
        self.acts = []


class Office:
    """All that is kept; kept_apart holds each pair of roles in both orders."""

    def __init__(self):
        self.today = 0
        self.people = []
        self.kept_apart = {}
        self.procedures = []
        self.papers = []


def has(things, number):
    """Whether one of these people, procedures or papers has this number."""
    return 0 <= number < len(things)


def is_role(number):
    return 0 <= number <= LAST_ROLE


def current_step(office, paper):
    return office.procedures[paper.procedure][paper.step]


def due_from_today(office, paper):
    """The day on which the paper is due if its step's days begin today."""
    return office.today + current_step(office, paper).days

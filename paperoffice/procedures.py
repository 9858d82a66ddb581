"""Point 3: procedures, step by step."""

from paperoffice.office import NOWHERE, Step, is_role
from paperoffice.refusals import FULL, NOT_ONE_THAT_MAY_BE

MOST_PROCEDURES = 16
MOST_STEPS = 16
NUMBERS_OF_A_STEP = 5
MOST_SIGNATURES = 3
MOST_DAYS = 30


def step_at(numbers, first):
    """The step whose five numbers begin at first."""
    return Step(numbers[first], numbers[first + 1], numbers[first + 2], numbers[first + 3], numbers[first + 4])


def steps_of(numbers):
    return [step_at(numbers, first) for first in range(0, len(numbers), NUMBERS_OF_A_STEP)]


def is_length_of_steps(length):
    return length % NUMBERS_OF_A_STEP == 0 and 1 <= length // NUMBERS_OF_A_STEP <= MOST_STEPS


def may_be_step(step, number):
    """Whether this step may stand as the step with this number."""
    if not is_role(step.role):
        return False
    if not 1 <= step.signatures <= MOST_SIGNATURES or not 1 <= step.days <= MOST_DAYS:
        return False
    return 0 <= step.writer_may_sign <= 1 and NOWHERE <= step.goes_back_to <= number


def add_procedure(office, numbers):
    if not is_length_of_steps(len(numbers)):
        return NOT_ONE_THAT_MAY_BE
    steps = steps_of(numbers)
    if not all([may_be_step(step, number) for number, step in enumerate(steps)]):
        return NOT_ONE_THAT_MAY_BE
    if len(office.procedures) == MOST_PROCEDURES:
        return FULL
    office.procedures.append(steps)
    return len(office.procedures) - 1

"""The desk: one list of calls comes in, one list of answers goes out."""

from paperoffice.office import Office
from paperoffice.papers import file_paper, may_act, refuse_paper, sign_paper
from paperoffice.people import add_person, give_roles, keep_apart
from paperoffice.procedures import add_procedure

PERSON = 1
ROLES = 2
APART = 3
PROCEDURE = 4
FILE = 5
SIGN = 6
REFUSE = 7

# The call 4, procedure, is not here: each one tells its own count.
HOW_MANY_NUMBERS = {1: 2, 2: 2, 3: 2, 5: 2, 6: 3, 7: 3, 8: 3}


def answer_of(office, call, given):
    """What the call with this number answers, given these numbers."""
    if call == PERSON:
        return add_person(office, given[0], given[1])
    if call == ROLES:
        return give_roles(office, given[0], given[1])
    if call == APART:
        return keep_apart(office, given[0], given[1])
    if call == PROCEDURE:
        return add_procedure(office, given)
    if call == FILE:
        return file_paper(office, given[0], given[1])
    if call == SIGN:
        return sign_paper(office, given[0], given[1], given[2])
    if call == REFUSE:
        return refuse_paper(office, given[0], given[1], given[2])
    # Only may is left: a number that is no call's was stopped by HOW_MANY_NUMBERS.
    return may_act(office, given[0], given[1], given[2])


def begin_of_numbers(calls, at):
    """Where the numbers of the call at this place begin."""
    if calls[at] == PROCEDURE:
        return at + 2
    return at + 1


def end_of_numbers(calls, at):
    """Where the call at this place ends, and the next one begins."""
    if calls[at] == PROCEDURE:
        return at + 2 + calls[at + 1]
    return at + 1 + HOW_MANY_NUMBERS[calls[at]]


def answers(calls):
    """The answers to these calls, made one behind another of a new office."""
    office = Office()
    told = []
    at = 0
    while at < len(calls):
        end = end_of_numbers(calls, at)
        given = calls[begin_of_numbers(calls, at):end]
        told.append(1)
        told.append(answer_of(office, calls[at], given))
        at = end
    return told

"""The desk: one list of calls comes in, one list of answers goes out."""

from paperoffice.absence import be_away, be_back
from paperoffice.days import pass_days
from paperoffice.office import Office
from paperoffice.papers import file_paper, may_act, refuse_paper, sign_paper, withdraw_paper
from paperoffice.people import add_person, give_roles, keep_apart
from paperoffice.procedures import add_procedure
from paperoffice.tellings import tell_acts, tell_paper, tell_waiting, tell_who

PERSON = 1
ROLES = 2
APART = 3
PROCEDURE = 4
FILE = 5
SIGN = 6
REFUSE = 7
MAY = 8
WITHDRAW = 9
AWAY = 10
BACK = 11
TELL = 13
ACTS = 14
WHO = 15
WAITING = 16

# The call 4, procedure, is not here: each one tells its own count.
HOW_MANY_NUMBERS = {1: 2, 2: 2, 3: 2, 5: 2, 6: 3, 7: 3, 8: 3, 9: 2, 10: 3, 11: 1, 12: 1, 13: 1, 14: 1, 15: 1, 16: 1}


def answer_of_act(office, call, given):
    """The number that sign, refuse or may answers."""
    if call == SIGN:
        return sign_paper(office, given[0], given[1], given[2])
    if call == REFUSE:
        return refuse_paper(office, given[0], given[1], given[2])
    return may_act(office, given[0], given[1], given[2])


def answer_of_question(office, call, number):
    """The numbers that tell, acts, who or waiting answers."""
    if call == TELL:
        return tell_paper(office, number)
    if call == ACTS:
        return tell_acts(office, number)
    if call == WHO:
        return tell_who(office, number)
    return tell_waiting(office, number)


def answer_of_order(office, call, given):
    """The number that any of the other calls answers."""
    if call == PERSON:
        return add_person(office, given[0], given[1])
    if call == ROLES:
        return give_roles(office, given[0], given[1])
    if call == APART:
        return keep_apart(office, given[0], given[1])
    if call == PROCEDURE:
        return add_procedure(office, given)
    if call == FILE:
        return file_paper(office, given[0], given[1])
    if call == WITHDRAW:
        return withdraw_paper(office, given[0], given[1])
    if call == AWAY:
        return be_away(office, given[0], given[1], given[2])
    if call == BACK:
        return be_back(office, given[0])
    # Only days is left: a number that is no call's was stopped by HOW_MANY_NUMBERS.
    return pass_days(office, given[0])


def answer_of(office, call, given):
    """The numbers that the call with this number answers, given these numbers."""
    if call in (SIGN, REFUSE, MAY):
        return [answer_of_act(office, call, given)]
    if call in (TELL, ACTS, WHO, WAITING):
        return answer_of_question(office, call, given[0])
    return [answer_of_order(office, call, given)]


def begin_of_numbers(calls, at):
    """Where the numbers of the call at this place begin."""
    if calls[at] == PROCEDURE:
        return at + 2
    return at + 1


def end_of_numbers(calls, at):
    """Where the call at this place ends, and the next one begins."""
    if calls[at] == PROCEDURE:
        return at + 2 + calls[at + 1]
    return at + 1 + HOW_MANY_NUMBERS[calls[at]]


def answers(calls):
    """The answers to these calls, made one behind another of a new office."""
    office = Office()
    told = []
    at = 0
    while at < len(calls):
        end = end_of_numbers(calls, at)
        answer = answer_of(office, calls[at], calls[begin_of_numbers(calls, at):end])
        told.append(len(answer))
        told.extend(answer)
        at = end
    return told

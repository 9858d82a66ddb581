"""Point 5: people who are away, and those who act for them."""

from paperoffice.office import NOBODY, has
from paperoffice.refusals import NOT_ONE_THAT_MAY_BE

MOST_DAYS_ON = 1000


def may_be_last_day(office, day):
    return office.today <= day <= office.today + MOST_DAYS_ON


def be_away(office, number, other, until):
    if not has(office.people, number) or not has(office.people, other):
        return NOT_ONE_THAT_MAY_BE
    # The one who acts for somebody is another: nobody is named for themselves.
    if other == number or not may_be_last_day(office, until):
        return NOT_ONE_THAT_MAY_BE
    person = office.people[number]
    person.stand_in = other
    person.stand_in_until = until
    return 0


def be_back(office, number):
    if not has(office.people, number):
        return NOT_ONE_THAT_MAY_BE
    person = office.people[number]
    person.stand_in = NOBODY
    return 0

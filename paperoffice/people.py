"""Points 1 and 2: people with their roles and chiefs, and roles that are kept apart."""

from paperoffice.office import NOBODY, Person, has, is_role
from paperoffice.refusals import FULL, NOT_ONE_THAT_MAY_BE, TOO_LATE

MOST_PEOPLE = 32
ALL_ROLES = 65535


def are_roles(number):
    return 0 <= number <= ALL_ROLES


def may_be_chief(office, number):
    return number == NOBODY or has(office.people, number)


def add_person(office, roles, chief):
    if not are_roles(roles) or not may_be_chief(office, chief):
        return NOT_ONE_THAT_MAY_BE
    if len(office.people) == MOST_PEOPLE:
        return FULL
    office.people.append(Person(roles, chief))
    return len(office.people) - 1


def give_roles(office, number, roles):
    if not has(office.people, number) or not are_roles(roles):
        return NOT_ONE_THAT_MAY_BE
    person = office.people[number]
    person.roles = roles
    return 0


def keep_apart(office, role, other):
    if not is_role(role) or not is_role(other):
        return NOT_ONE_THAT_MAY_BE
    if len(office.papers) > 0:
        return TOO_LATE
    office.kept_apart[(role, other)] = True
    office.kept_apart[(other, role)] = True
    return 0

"""How the tests write calls down, and how they look at what comes back."""

from paperoffice.desk import answers

LEAST = -2147483648
MOST = 2147483647


def person(roles, chief=-1):
    return [1, roles, chief]


def roles(number, held):
    return [2, number, held]


def apart(role, other):
    return [3, role, other]


def step(role=0, signatures=1, days=1, writer_may_sign=1, back=-1):
    return [role, signatures, days, writer_may_sign, back]


def procedure(*steps):
    numbers = [number for each in steps for number in each]
    return [4, len(numbers)] + numbers


def file(writer, number=0):
    return [5, writer, number]


def sign(by, paper=0, behalf=None):
    return [6, by, by if behalf is None else behalf, paper]


def refuse(by, paper=0, behalf=None):
    return [7, by, by if behalf is None else behalf, paper]


def may(by, paper=0, behalf=None):
    return [8, by, by if behalf is None else behalf, paper]


def flat(calls):
    return [number for call in calls for number in call]


def told(*calls):
    """The one number that each of these calls answers, of a new office."""
    answered = answers(flat(calls))
    if len(answered) != 2 * len(calls) or answered[0::2] != [1] * len(calls):
        raise AssertionError(f"not one number for each of {len(calls)} calls: {answered}")
    return answered[1::2]


def last(*calls):
    """What the last of these calls answers."""
    return told(*calls)[-1]


def snapshot(thing):
    """All that an office holds, as plain values that can be compared."""
    if isinstance(thing, list):
        return [snapshot(each) for each in thing]
    if isinstance(thing, dict):
        return {key: snapshot(each) for key, each in thing.items()}
    if isinstance(thing, int):
        return thing
    return snapshot(vars(thing))

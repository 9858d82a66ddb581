"""How the tests write calls down, and how they look at what comes back."""

from paperoffice.desk import answers

LEAST = -2147483648
MOST = 2147483647
MOST_CALLS = 350
MOST_NUMBERS = 30000


def person(roles, chief=-1):
    return [1, roles, chief]


def roles(number, held):
    return [2, number, held]


def apart(role, other):
    return [3, role, other]


def step(role=0, signatures=1, days=1, writer_may_sign=1, back=-1):
    return [role, signatures, days, writer_may_sign, back]


def procedure(*steps):
    numbers = [number for each in steps for number in each]
    return [4, len(numbers)] + numbers


def file(writer, number=0):
    return [5, writer, number]


def sign(by, paper=0, behalf=None):
    return [6, by, by if behalf is None else behalf, paper]


def refuse(by, paper=0, behalf=None):
    return [7, by, by if behalf is None else behalf, paper]


def may(by, paper=0, behalf=None):
    return [8, by, by if behalf is None else behalf, paper]


def withdraw(by, paper=0):
    return [9, by, paper]


def away(number, to, until):
    return [10, number, to, until]


def back(number):
    return [11, number]


def days(count):
    return [12, count]


def pass_days(count):
    """As many calls of days as it takes for so many days to pass."""
    return [days(30)] * (count // 30) + ([days(count % 30)] if count % 30 else [])


def tell(paper=0):
    return [13, paper]


def acts(paper=0):
    return [14, paper]


def who(paper=0):
    return [15, paper]


def waiting(number):
    return [16, number]


def flat(calls):
    return [number for call in calls for number in call]


def rows_of(answered):
    """The numbers of each answer, out of the one list that comes back."""
    rows = []
    at = 0
    while at < len(answered):
        rows.append(answered[at + 1:at + 1 + answered[at]])
        at += 1 + answered[at]
    if at != len(answered):
        raise AssertionError(f"the last answer is cut off: {answered}")
    return rows


def rows(*calls):
    """All the numbers that each of these calls answers, of a new office."""
    numbers = flat(calls)
    if len(calls) > MOST_CALLS or len(numbers) > MOST_NUMBERS:
        raise AssertionError(f"more than may be handed in: {len(calls)} calls, {len(numbers)} numbers")
    answered = rows_of(answers(numbers))
    if len(answered) != len(calls):
        raise AssertionError(f"{len(answered)} answers to {len(calls)} calls")
    return answered


def last_row(*calls):
    """All the numbers that the last of these calls answers."""
    return rows(*calls)[-1]


def told(*calls):
    """The one number that each of these calls answers, of a new office."""
    answered = rows(*calls)
    if [len(row) for row in answered] != [1] * len(calls):
        raise AssertionError(f"not one number for each of {len(calls)} calls: {answered}")
    return [row[0] for row in answered]


def last(*calls):
    """The one number that the last of these calls answers."""
    row = last_row(*calls)
    if len(row) != 1:
        raise AssertionError(f"not one number: {row}")
    return row[0]


def snapshot(thing):
    """All that an office holds, as plain values that can be compared."""
    if isinstance(thing, list):
        return [snapshot(each) for each in thing]
    if isinstance(thing, dict):
        return {key: snapshot(each) for key, each in thing.items()}
    if isinstance(thing, int):
        return thing
    return snapshot(vars(thing))

"""What's promised beyond the points, and the document told a second time to compare with, over many lists of calls."""

import itertools
import random
import unittest

from calls import (LEAST, MOST, MOST_CALLS, acts, apart, away, back, days, file, last_row, may, pass_days, person,
                   procedure, refuse, roles, rows, sign, step, tell, told, waiting, who, withdraw)

UNDER_WAY, APPROVED, REFUSED, WITHDRAWN, LAPSED = range(5)


class Retold:
    """The document once more, in other words: a call is looked at as a whole, and an act is a plain tuple."""

    def __init__(self):
        self.day, self.people, self.shelf, self.papers = 0, [], [], []
        self.apart, self.named = set(), {}
        self.made = {1: self.person, 2: self.roles, 3: self.keep, 4: self.procedure, 5: self.file, 6: self.sign,
                     7: self.refuse, 8: self.may, 9: self.withdraw, 10: self.away, 11: self.back, 12: self.days,
                     13: self.tell, 14: self.acts, 15: self.who, 16: self.waiting}

    def answer(self, call):
        row = self.made[call[0]](*([call[2:]] if call[0] == 4 else call[1:]))
        return row if isinstance(row, list) else [row]

    def is_person(self, *numbers):
        return all(number in range(len(self.people)) for number in numbers)

    def is_paper(self, number):
        return number in range(len(self.papers))

    def person(self, held, chief):
        if held not in range(2 ** 16) or not (chief == -1 or self.is_person(chief)):
            return -2
        if len(self.people) >= 32:
            return -8
        self.people.append([{role for role in range(16) if held & 2 ** role}, chief])
        return len(self.people) - 1

    def roles(self, number, held):
        if not self.is_person(number) or held not in range(2 ** 16):
            return -2
        self.people[number][0] = {role for role in range(16) if held & 2 ** role}
        return 0

    def keep(self, role, other):
        if role not in range(16) or other not in range(16):
            return -2
        if self.papers:
            return -3
        self.apart.add(frozenset((role, other)))
        return 0

    def procedure(self, numbers):
        if len(numbers) not in range(5, 81, 5):
            return -2
        steps = [tuple(numbers[at:at + 5]) for at in range(0, len(numbers), 5)]
        for at, (role, count, span, writer, goes) in enumerate(steps):
            if (role not in range(16) or count not in range(1, 4) or span not in range(1, 31) or writer not in (0, 1)
                    or goes not in range(-1, at + 1)):
                return -2
        if len(self.shelf) >= 16:
            return -8
        self.shelf.append(steps)
        return len(self.shelf) - 1

    def file(self, writer, number):
        if not self.is_person(writer) or number not in range(len(self.shelf)):
            return -2
        if len(self.papers) >= 256:
            return -8
        self.papers.append({"how": 0, "procedure": number, "writer": writer, "round": 0, "acts": []})
        self.comes(self.papers[-1], 0)
        return len(self.papers) - 1

    def step(self, paper):
        return self.shelf[paper["procedure"]][paper["step"]]

    def comes(self, paper, at):
        paper["step"] = at
        paper["level"] = 0
        paper["due"] = self.day + self.step(paper)[2]

    def entitled(self, role, level):
        able = {number for number, (held, chief) in enumerate(self.people) if role in held}
        rising = able
        for risen in range(level):
            rising = {self.people[number][1] for number in rising} - {-1}
            able = able | rising
        return able

    def may(self, by, whom, number):
        if not self.is_person(by, whom) or not self.is_paper(number):
            return -2
        paper = self.papers[number]
        if paper["how"] != 0:
            return -3
        role, count, span, writer, goes = self.step(paper)
        other, until = self.named.get(whom, (None, None))
        if by != whom and (other != by or self.day > until):
            return -4
        if whom not in self.entitled(role, paper["level"]):
            return -5
        if writer == 0 and paper["writer"] in {by, whom}:
            return -6
        own = [act for act in paper["acts"] if {act[2], act[3]} & {by, whom}]
        if [act for act in own if act[:2] == (paper["step"], paper["round"])]:
            return -7
        held = [self.shelf[paper["procedure"]][act[0]][0] for act in own]
        return -9 if [each for each in held if frozenset((each, role)) in self.apart] else 0

    def sign(self, by, whom, number):
        if self.may(by, whom, number):
            return self.may(by, whom, number)
        paper = self.papers[number]
        place = (paper["step"], paper["round"])
        paper["acts"].append(place + (by, whom, 1))
        if len([act for act in paper["acts"] if act[:2] == place and act[4]]) >= self.step(paper)[1]:
            if paper["step"] + 1 < len(self.shelf[paper["procedure"]]):
                self.comes(paper, paper["step"] + 1)
            else:
                paper["how"] = 1
        return paper["how"]

    def refuse(self, by, whom, number):
        if self.may(by, whom, number):
            return self.may(by, whom, number)
        paper = self.papers[number]
        paper["acts"].append((paper["step"], paper["round"], by, whom, 0))
        goes = self.step(paper)[4]
        if goes < 0 or paper["round"] >= 10:
            paper["how"] = 2
        else:
            paper["round"] += 1
            self.comes(paper, goes)
        return paper["how"]

    def withdraw(self, by, number):
        if not self.is_person(by) or not self.is_paper(number):
            return -2
        paper = self.papers[number]
        if paper["how"] != 0:
            return -3
        if paper["writer"] != by:
            return -6
        paper["how"] = 3
        return 0

    def away(self, number, other, until):
        if not self.is_person(number, other) or number == other or until - self.day not in range(1001):
            return -2
        self.named[number] = (other, until)
        return 0

    def back(self, number):
        if not self.is_person(number):
            return -2
        self.named.pop(number, None)
        return 0

    def days(self, count):
        if count not in range(1, 31):
            return -2
        for self.day in range(self.day + 1, self.day + count + 1):
            for paper in [paper for paper in self.papers if paper["how"] == 0 and paper["due"] < self.day]:
                if paper["level"] >= 5:
                    paper["how"] = 4
                else:
                    paper["level"] += 1
                    paper["due"] = self.day + self.step(paper)[2]
        return self.day

    def tell(self, number):
        if not self.is_paper(number):
            return -2
        paper = self.papers[number]
        names = ("how", "procedure", "writer", "step", "round", "level", "due")
        return [paper[name] for name in names] + [len(paper["acts"])]

    def acts(self, number):
        if not self.is_paper(number):
            return -2
        noted = self.papers[number]["acts"]
        return [len(noted)] + list(itertools.chain(*noted))

    def who(self, number):
        if not self.is_paper(number):
            return -2
        able = [each for each in range(len(self.people)) if self.may(each, each, number) == 0]
        return [len(able)] + able

    def waiting(self, number):
        if not self.is_person(number):
            return -2
        able = [each for each in range(len(self.papers)) if self.may(number, number, each) == 0]
        return [len(able)] + able


class Chance:
    """Lists of calls of every kind, the same ones each time; now and then a number is one that may not be."""

    def __init__(self, seed):
        self.chance = random.Random(seed)
        self.people = self.chance.choice((2, 4, 7, 12))
        self.roles = self.chance.choice((1, 2, 3, 5))
        self.span = self.chance.choice((1, 3, 10, 30))
        self.papers = self.chance.choice((1, 3, 8))
        self.rare = self.chance.choice((0, 0, 40))
        self.day = 0

    def within(self, low, high):
        if self.rare and self.chance.randrange(self.rare) == 0:
            return self.chance.choice((LEAST, -2, -1, low - 1, high + 1, 16, 32, MOST))
        return self.chance.randint(low, high)

    def somebody(self):
        return self.within(0, self.people - 1)

    def some_paper(self):
        return self.within(0, self.papers - 1)

    def some_roles(self):
        return self.within(0, 2 ** self.roles - 1)

    def some_procedure(self):
        steps = []
        for at in range(self.chance.choice((1, 2, 3, 4, 16))):
            goes = self.within(-1, at)
            steps.append(step(self.within(0, self.roles - 1), min(self.within(1, 3), self.within(1, 3)),
                              self.within(1, self.span), self.within(0, 1), goes))
        made = procedure(*steps)
        return [4, len(made) - 3] + made[2:-1] if self.rare and self.chance.randrange(self.rare) == 0 else made

    def beginning(self):
        calls = [person(self.some_roles(), self.within(-1, at - 1)) for at in range(self.people)]
        for count in range(self.chance.choice((0, 1, 2))):
            calls.append(apart(self.within(0, self.roles - 1), self.within(0, self.roles - 1)))
        calls += [self.some_procedure() for count in range(3)]
        return calls + [file(self.somebody(), self.within(0, 2)) for count in range(self.papers)]

    def act(self, make):
        by = self.somebody()
        return make(by, self.some_paper(), behalf=self.chance.choice((by, by, self.somebody())))

    def call(self):
        kind = self.chance.randrange(60)
        if kind < 30:
            return self.act((sign, sign, sign, sign, refuse, may)[kind % 6])
        if kind < 36:
            return away(self.somebody(), self.somebody(), self.day + self.within(0, 9))
        if kind < 42:
            count = self.within(1, self.chance.choice((1, 2, self.span)))
            self.day += count if 1 <= count <= 30 else 0
            return days(count)
        if kind < 52:
            return (tell, acts, who)[kind % 3](self.some_paper())
        return [waiting(self.somebody()), waiting(self.somebody()), back(self.somebody()),
                roles(self.somebody(), self.some_roles()), file(self.somebody(), self.within(0, 2)),
                person(self.some_roles(), self.somebody()), withdraw(self.somebody(), self.some_paper()),
                self.some_procedure() if self.rare else apart(0, 0)][kind - 52]

    def calls(self):
        made = self.beginning()
        while len(made) < MOST_CALLS - 2 * self.papers:
            made.append(self.call())
        for number in range(self.papers):
            made += [tell(number), acts(number)]
        return made


LISTS = [Chance(seed).calls() for seed in range(200)]


class TestRetold(unittest.TestCase):
    def test_lists_of_350_calls_are_answered_as_the_document_says(self):
        seen = {}
        for seed, calls in enumerate(LISTS):
            office = Retold()
            self.assertEqual(len(calls), MOST_CALLS)
            for at, (call, row) in enumerate(zip(calls, rows(*calls))):
                self.assertEqual(row, office.answer(call), (seed, at, call))
                seen[call[0], row[0]] = True
        for kind in (6, 7, 8):
            self.assertEqual([answer for answer in range(-9, 0) if (kind, answer) in seen], [-9, -7, -6, -5, -4, -3, -2])
        self.assertEqual([how for how in range(5) if (13, how) in seen], [0, 1, 2, 3, 4])
        self.assertEqual([answer for answer in range(-9, 1) if (9, answer) in seen], [-6, -3, -2, 0])


class TestPromisedBeyond(unittest.TestCase):
    """Read off what is told: the papers' acts, the steps that were handed in, and who wrote what."""

    def papers(self):
        for calls in LISTS:
            answered = rows(*calls)
            kept_apart = set()
            shelf = []
            for call, row in zip(calls, answered):
                if call[0] == 3 and row == [0]:
                    kept_apart.add(frozenset(call[1:]))
                if call[0] == 4 and row[0] >= 0:
                    shelf.append([call[at:at + 5] for at in range(2, len(call), 5)])
            for at in range(len(calls) - 1):
                if calls[at][0] == 13 and calls[at + 1] == acts(calls[at][1]) and answered[at] != [-2]:
                    noted = answered[at + 1][1:]
                    yield (answered[at], shelf[answered[at][1]], kept_apart,
                           [noted[first:first + 5] for first in range(0, len(noted), 5)])

    def test_approved_by_every_signature_and_as_many_different_people(self):
        approved = 0
        for paper, steps, kept_apart, noted in self.papers():
            if paper[0] == APPROVED:
                approved += 1
                for at, (role, count, span, writer, goes) in enumerate(steps):
                    turn = max(act[1] for act in noted if act[0] == at)
                    signed = [act for act in noted if act[:2] == [at, turn]]
                    self.assertEqual([act[4] for act in signed], [1] * count)
                    for first, second in itertools.combinations(signed, 2):
                        self.assertFalse({first[2], first[3]} & {second[2], second[3]})
        self.assertGreater(approved, 50)

    def test_nobody_acts_in_two_roles_that_are_kept_apart(self):
        watched = 0
        for paper, steps, kept_apart, noted in self.papers():
            for first, second in itertools.combinations(noted, 2):
                if frozenset((steps[first[0]][0], steps[second[0]][0])) in kept_apart:
                    watched += 1
                    self.assertFalse({first[2], first[3]} & {second[2], second[3]})
        self.assertGreater(watched, 50)

    def test_nobody_acts_on_their_own_where_that_is_not_allowed(self):
        watched = 0
        for paper, steps, kept_apart, noted in self.papers():
            for act in noted:
                if steps[act[0]][3] == 0:
                    watched += 1
                    self.assertNotIn(paper[2], act[2:4])
        self.assertGreater(watched, 50)


class TestComesToAnEnd(unittest.TestCase):
    def test_186_days_with_no_act_and_not_one_fewer(self):
        calls = [person(1), procedure(step(days=30)), file(0)]
        self.assertEqual(last_row(*calls, *pass_days(185), tell()), [UNDER_WAY, 0, 0, 0, 0, 5, 185, 0])
        self.assertEqual(last_row(*calls, *pass_days(186), tell()), [LAPSED, 0, 0, 0, 0, 5, 185, 0])

    def test_whatever_days_a_step_has(self):
        for span in range(1, 31):
            with self.subTest(span=span):
                calls = [person(1), procedure(step(days=span)), file(0)]
                self.assertEqual(last_row(*calls, *pass_days(6 * span + 5), tell())[0], UNDER_WAY)
                self.assertEqual(last_row(*calls, *pass_days(6 * span + 6), tell())[0], LAPSED)

    def test_however_the_days_are_passed(self):
        calls = [person(1), procedure(step(days=30)), file(0)]
        for ways in ([days(1)] * 186, [days(6)] * 31, [days(29)] * 6 + [days(12)], [days(12)] + [days(29)] * 6):
            self.assertEqual(last_row(*calls, *ways, tell())[0], LAPSED)

    def test_counted_from_the_last_act(self):
        house = [person(1), person(1), procedure(step(days=30, signatures=2, back=0), step(days=30)), file(0)]
        for before in ([sign(0)], [refuse(0)], [sign(0), sign(1)], [sign(0), refuse(1)]):
            for waited in (0, 1, 30, 31, 100, 185):
                with self.subTest(before=before, waited=waited):
                    calls = house + pass_days(waited) + before
                    self.assertEqual(last_row(*calls, tell())[0], UNDER_WAY)
                    self.assertEqual(last_row(*calls, *pass_days(186), tell())[0], LAPSED)

    def test_an_act_that_moves_it_gives_it_186_days_more(self):
        calls = [person(1), procedure(step(days=30, back=0)), file(0)] + pass_days(185) + [refuse(0)]
        self.assertEqual(last_row(*calls, *pass_days(185), tell())[0], UNDER_WAY)
        self.assertEqual(last_row(*calls, *pass_days(186), tell())[0], LAPSED)

    def test_what_only_asks_or_is_refused_is_no_act(self):
        calls = [person(1), person(0), procedure(step(days=30)), file(0)]
        for between in (may(0), sign(1), refuse(1), tell(), acts(), who(), waiting(0), away(0, 1, 200), withdraw(1)):
            with self.subTest(between=between):
                self.assertEqual(last_row(*calls, *pass_days(100), between, *pass_days(86), tell())[0], LAPSED)


class TestTwoStandIns(unittest.TestCase):
    """The ways by which one might try to sign twice through somebody else."""

    def test_one_person_is_never_two_signatures(self):
        calls = [person(1)] * 4 + [procedure(step(signatures=2)), file(3), away(0, 1, 9), away(2, 1, 9), away(1, 3, 9)]
        self.assertEqual(told(*calls, sign(1, behalf=0), sign(1), sign(0), sign(1, behalf=2), sign(3, behalf=1), sign(2))[-6:],
                         [0, -7, -7, -7, -7, APPROVED])

    def test_changing_who_stands_in_does_not_help(self):
        calls = [person(1)] * 3 + [procedure(step(signatures=2)), file(2), away(0, 1, 9), sign(1, behalf=0)]
        self.assertEqual(told(*calls, away(0, 2, 9), sign(2, behalf=0), back(0), sign(0), away(1, 0, 9),
                              sign(0, behalf=1))[-6:], [0, -7, 0, -7, 0, -7])

    def test_the_writer_s_stand_in_does_not_help(self):
        calls = [person(1)] * 3 + [procedure(step(writer_may_sign=0)), file(0), away(0, 1, 9), away(2, 0, 9)]
        self.assertEqual(told(*calls, sign(0), sign(1, behalf=0), sign(0, behalf=2), sign(1))[-4:], [-6, -6, -6, APPROVED])

    def test_another_role_by_way_of_another_person_does_not_help(self):
        calls = [apart(0, 1), person(1), person(2), person(2), procedure(step(0), step(1)), file(0), away(1, 0, 9), sign(0)]
        self.assertEqual(told(*calls, sign(0, behalf=1), away(1, 2, 9), sign(2, behalf=1))[-3:], [-9, 0, APPROVED])


if __name__ == "__main__":
    unittest.main()

"""Ahead of the points: what's refused changes nothing."""

import unittest

from calls import (LEAST, MOST, acts, apart, away, back, days, file, may, person, procedure, refuse, roles, rows, sign,
                   snapshot, step, tell, told, waiting, who, withdraw)
from paperoffice.desk import answer_of
from paperoffice.office import Office

STEPS = [step(0, 2, 3, 1, 0), step(1, 1, 5, 0, 0), step(2, 1, 7, 1, 1)]
STORY = [
    person(1), person(3, 0), person(6, 1), person(4), apart(1, 2), procedure(*STEPS), file(0), file(1),
    sign(0), sign(1), refuse(1), sign(1), sign(0), sign(2), roles(2, 2), sign(3), refuse(0, 1), refuse(1, 1), sign(2, 1),
    sign(0, 1), sign(1, 1), sign(1, 1), away(2, 3, 4), days(4), sign(3, 1, 2), file(2), withdraw(2, 2), file(0),
    back(2), days(30), away(0, 1, 40), days(6),
]
ANSWERS_TO_STORY = [0, 1, 2, 3, 0, 0, 0, 1, 0, 0, 0, 0, 0, 0, 0, 1, 0, 0, -5, 0, 0, -6, 0, 4, 0, 2, 0, 3, 0, 34, 0, 40]

# Each of these is tried in every state of the story; what is not refused there is not made.
TRIES = [
    person(-1), person(65536), person(0, -2), person(0, 32), roles(-1, 0), roles(0, 65536), apart(16, 0), apart(0, 1),
    procedure(), procedure(step(16)), procedure(step(), step(back=2)), [4, 3, 0, 1, 1], file(-1), file(0, 1), file(0, -1),
    away(-1, 0, 5), away(0, 4, 5), away(0, 0, 5), away(0, 1, -1), away(0, 1, 1041), away(2, 1, MOST), back(-1), back(4),
    days(0), days(-1), days(31), days(MOST), days(LEAST),
] + [
    [act, by, behalf, paper] for act in (6, 7, 8)
    for by in (LEAST, -1, 0, 1, 2, 3, 4, MOST) for behalf in (-1, 0, 1, 2, 3, 4) for paper in (-1, 0, 1, 2, 3, 4)
] + [
    withdraw(by, paper) for by in (-1, 0, 1, 2, 3, 4) for paper in (-1, 0, 1, 2, 3, 4)
]
QUESTIONS = [
    ask(number) for ask in (tell, acts, who, waiting) for number in (LEAST, -1, 0, 1, 2, 3, 4, MOST)
]


def given(call):
    return call[2:] if call[0] == 4 else call[1:]


def office_after(calls):
    office = Office()
    for call in calls:
        answer_of(office, call[0], given(call))
    return office


class TestRefused(unittest.TestCase):
    def test_the_story_goes_as_told(self):
        self.assertEqual(told(*STORY), ANSWERS_TO_STORY)

    def test_a_refused_call_changes_nothing(self):
        refused = {}
        for length in range(len(STORY) + 1):
            office = office_after(STORY[:length])
            before = snapshot(office)
            for call in TRIES:
                row = answer_of(office, call[0], given(call))
                answer = row[0]
                if answer >= 0:
                    office = office_after(STORY[:length])
                else:
                    refused[answer] = True
                    self.assertEqual(len(row), 1)
                    self.assertEqual(snapshot(office), before, (length, call, answer))
        self.assertEqual(sorted(refused), [-9, -7, -6, -5, -4, -3, -2])

    def test_where_all_is_full_a_refused_call_changes_nothing(self):
        full = [person(0)] * 32 + [procedure(step())] * 16 + [file(0)] * 256
        office = office_after(full)
        before = snapshot(office)
        for call in (person(1), procedure(step()), file(0)):
            self.assertEqual(answer_of(office, call[0], given(call)), [-8])
            self.assertEqual(snapshot(office), before)

    def test_what_only_asks_changes_nothing_whatever_it_answers(self):
        for length in range(len(STORY) + 1):
            office = office_after(STORY[:length])
            before = snapshot(office)
            for call in [each for each in TRIES if each[0] == 8] + QUESTIONS:
                answer_of(office, call[0], given(call))
                self.assertEqual(snapshot(office), before, (length, call))

    def test_only_what_there_is_not_is_refused_to_a_question(self):
        for length in range(len(STORY) + 1):
            made = [call[0] for call in STORY[:length]]
            for call, row in zip(QUESTIONS, rows(*STORY[:length], *QUESTIONS)[length:]):
                there = made.count(1) if call[0] == 16 else made.count(5)
                with self.subTest(length=length, call=call):
                    self.assertEqual(row == [-2], not 0 <= call[1] < there)
                    self.assertTrue(row == [-2] or min(row) >= 0)

    def test_refused_calls_in_between_leave_the_story_as_it_is(self):
        wrong = [person(-1), roles(9, 0), apart(0, 16), procedure(step(days=31)), file(9), sign(9), refuse(0, 9), may(9),
                 withdraw(9), away(0, 0, 50), back(9), days(0), tell(9), acts(9), who(9), waiting(9)]
        for some in (wrong[:8], wrong[8:]):
            mixed = []
            for call in STORY:
                mixed = mixed + some + [call]
            answered = told(*mixed)
            self.assertEqual(answered[8::9], ANSWERS_TO_STORY)
            self.assertEqual(answered.count(-2), 8 * len(STORY))


if __name__ == "__main__":
    unittest.main()

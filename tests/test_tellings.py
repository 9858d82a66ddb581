"""Point 10: tell, acts, who, waiting."""

import unittest

from calls import (LEAST, MOST, acts, apart, away, days, file, last_row, may, person, procedure, refuse, roles, rows,
                   sign, step, tell, waiting, who, withdraw)

# 0 to 2 hold role 0, 1 and 3 hold role 1; papers 0 to 4 are then under way, approved, refused, withdrawn, lapsed.
FIVE_STATES = [
    person(1), person(3, 0), person(1, 1), person(2, 0),
    procedure(step(0, days=1)), procedure(step(0, 2, 30, 0, 0), step(1, 1, 20)),
    file(0, 1), file(1, 1), file(2, 1), file(3, 1), file(0, 0),
    sign(0, 1), sign(2, 1), days(3), sign(3, 1),
    sign(0, 2), refuse(1, 2), sign(1, 2), sign(0, 2), refuse(3, 2),
    sign(1, 3), withdraw(3, 3),
    days(9),
]


class TestTell(unittest.TestCase):
    def test_the_five_states(self):
        answered = rows(*FIVE_STATES, *[tell(number) for number in range(5)])[-5:]
        self.assertEqual(answered, [
            [0, 1, 0, 0, 0, 0, 30, 0],
            [1, 1, 1, 1, 0, 0, 20, 3],
            [2, 1, 2, 1, 1, 0, 23, 5],
            [3, 1, 3, 0, 0, 0, 30, 1],
            [4, 0, 0, 0, 0, 5, 11, 0],
        ])

    def test_each_number_stands_in_its_own_place(self):
        calls = [person(1)] * 3 + [procedure(step())] * 4 + [procedure(step(back=0), step(days=2, back=0))]
        calls += [file(2, 4), refuse(0), sign(0), refuse(1), refuse(2), sign(0), days(4)]
        self.assertEqual(last_row(*calls, tell()), [0, 4, 2, 1, 3, 1, 5, 5])

    def test_papers_there_are_not(self):
        for number in (LEAST, -1, 5, 6, 256, MOST):
            with self.subTest(number=number):
                self.assertEqual(last_row(*FIVE_STATES, tell(number)), [-2])
        self.assertEqual(rows(tell(0), tell(-1)), [[-2], [-2]])

    def test_the_last_paper_there_may_be(self):
        calls = [person(1), procedure(step())] + [file(0)] * 256
        self.assertEqual(rows(*calls, tell(255), tell(256))[-2:], [[0, 0, 0, 0, 0, 0, 1, 0], [-2]])

    def test_in_round_10(self):
        calls = [person(1), procedure(step(back=0)), file(0)] + [refuse(0)] * 10
        self.assertEqual(last_row(*calls, tell()), [0, 0, 0, 0, 10, 0, 1, 10])
        self.assertEqual(last_row(*calls, refuse(0), tell()), [2, 0, 0, 0, 10, 0, 1, 11])


class TestActs(unittest.TestCase):
    def test_the_five_states(self):
        answered = rows(*FIVE_STATES, *[acts(number) for number in range(5)])[-5:]
        self.assertEqual(answered, [
            [0],
            [3, 0, 0, 0, 0, 1, 0, 0, 2, 2, 1, 1, 0, 3, 3, 1],
            [5, 0, 0, 0, 0, 1, 0, 0, 1, 1, 0, 0, 1, 1, 1, 1, 0, 1, 0, 0, 1, 1, 1, 3, 3, 0],
            [1, 0, 0, 1, 1, 1],
            [0],
        ])

    def test_by_stands_before_for(self):
        calls = [person(1), person(0), procedure(step(), step()), file(0), away(0, 1, 0)]
        self.assertEqual(last_row(*calls, sign(1, behalf=0), sign(0), acts()), [2, 0, 0, 1, 0, 1, 1, 0, 0, 0, 1])

    def test_what_was_refused_or_only_asked_is_no_act(self):
        calls = [person(1), person(0), procedure(step(signatures=2)), file(0), may(0), sign(1), refuse(1), sign(0), sign(0)]
        self.assertEqual(last_row(*calls, acts()), [1, 0, 0, 0, 0, 1])

    def test_papers_there_are_not(self):
        for number in (LEAST, -1, 5, 6, MOST):
            with self.subTest(number=number):
                self.assertEqual(last_row(*FIVE_STATES, acts(number)), [-2])
        self.assertEqual(rows(acts(0)), [[-2]])

    def test_each_round_s_acts_are_told(self):
        calls = [person(1), procedure(step(back=0)), file(0)] + [refuse(0)] * 11
        wanted = [11] + [number for turn in range(11) for number in (0, turn, 0, 0, 0)]
        self.assertEqual(last_row(*calls, acts()), wanted)


class TestWho(unittest.TestCase):
    def test_the_five_states(self):
        self.assertEqual(rows(*FIVE_STATES, *[who(number) for number in range(5)])[-5:], [[2, 1, 2], [0], [0], [0], [0]])

    def test_papers_there_are_not(self):
        for number in (LEAST, -1, 5, 6, MOST):
            with self.subTest(number=number):
                self.assertEqual(last_row(*FIVE_STATES, who(number)), [-2])
        self.assertEqual(rows(who(0)), [[-2]])

    def test_nobody(self):
        self.assertEqual(last_row(person(0), procedure(step()), file(0), who()), [0])

    def test_person_0_alone_is_told_apart_from_nobody(self):
        self.assertEqual(last_row(person(1), procedure(step()), file(0), who()), [1, 0])

    def test_32_people_rising(self):
        calls = [person(1)] * 32 + [procedure(step()), file(0)]
        self.assertEqual(last_row(*calls, who()), [32] + list(range(32)))

    def test_for_themselves_alone(self):
        calls = [person(1), person(0), procedure(step()), file(0), away(0, 1, 9)]
        self.assertEqual(last_row(*calls, who()), [1, 0])

    def test_the_writer_and_those_who_have_acted_are_not_told(self):
        calls = [apart(0, 1)] + [person(3)] * 4
        calls += [procedure(step(0, 2), step(1, writer_may_sign=0)), file(3), sign(1)]
        self.assertEqual(last_row(*calls, who()), [3, 0, 2, 3])
        self.assertEqual(last_row(*calls, sign(0), who()), [1, 2])

    def test_it_is_who_may_when_they_are_asked_one_by_one(self):
        for length in range(11, len(FIVE_STATES) + 1):
            calls = FIVE_STATES[:length]
            for paper in range(5):
                asked = rows(*calls, *[may(number, paper) for number in range(4)])[-4:]
                able = [number for number in range(4) if asked[number] == [0]]
                with self.subTest(length=length, paper=paper):
                    self.assertEqual(last_row(*calls, who(paper)), [len(able)] + able)

    def test_roles_that_change_are_seen(self):
        calls = [person(1), person(0), procedure(step()), file(0), roles(0, 0), roles(1, 1)]
        self.assertEqual(last_row(*calls, who()), [1, 1])

    def test_it_does_nothing(self):
        calls = FIVE_STATES[:14] + [who(0), waiting(1), acts(1), tell(2)] * 2 + FIVE_STATES[14:]
        self.assertEqual(rows(*calls, tell(0), tell(1), tell(2))[-3:], rows(*FIVE_STATES, tell(0), tell(1), tell(2))[-3:])


class TestWaiting(unittest.TestCase):
    def test_the_five_states(self):
        answered = rows(*FIVE_STATES, *[waiting(number) for number in range(4)])[-4:]
        self.assertEqual(answered, [[0], [1, 0], [1, 0], [0]])

    def test_before_they_came_to_an_end(self):
        answered = rows(*FIVE_STATES[:11], *[waiting(number) for number in range(4)])[-4:]
        self.assertEqual(answered, [[4, 1, 2, 3, 4], [4, 0, 2, 3, 4], [4, 0, 1, 3, 4], [0]])

    def test_people_there_are_not(self):
        for number in (LEAST, -1, 4, 5, 32, MOST):
            with self.subTest(number=number):
                self.assertEqual(last_row(*FIVE_STATES, waiting(number)), [-2])
        self.assertEqual(rows(waiting(0)), [[-2]])

    def test_no_paper_at_all(self):
        self.assertEqual(last_row(person(65535), waiting(0)), [0])

    def test_paper_0_alone_is_told_apart_from_none(self):
        self.assertEqual(last_row(person(1), procedure(step()), file(0), waiting(0)), [1, 0])

    def test_256_papers_rising(self):
        calls = [person(1), procedure(step())] + [file(0)] * 256
        self.assertEqual(last_row(*calls, waiting(0)), [256] + list(range(256)))

    def test_for_themselves_alone(self):
        calls = [person(1), person(0), procedure(step()), file(0), away(0, 1, 9)]
        self.assertEqual(rows(*calls, waiting(0), waiting(1))[-2:], [[1, 0], [0]])

    def test_papers_that_rose_wait_for_a_chief(self):
        calls = [person(0), person(1, 0), procedure(step(days=1)), procedure(step(days=2)), file(0, 1), file(0, 0), file(0, 0)]
        self.assertEqual([last_row(*calls, *passed, waiting(0)) for passed in ([], [days(1)], [days(2)], [days(3)])],
                         [[0], [0], [2, 1, 2], [3, 0, 1, 2]])

    def test_a_paper_they_acted_on_does_not_wait_for_them(self):
        calls = [person(1), person(1), procedure(step(signatures=2)), file(0), file(0), sign(0, 0)]
        self.assertEqual(rows(*calls, waiting(0), waiting(1))[-2:], [[1, 1], [2, 0, 1]])


if __name__ == "__main__":
    unittest.main()

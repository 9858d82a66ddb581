"""Point 6: each reason why somebody may not act, and which of two reasons counts."""

import unittest

from calls import apart, file, person, procedure, refuse, roles, sign, step, told
from paperoffice.office import Office
from paperoffice.papers import file_paper, sign_paper
from paperoffice.people import add_person, keep_apart
from paperoffice.procedures import add_procedure
from paperoffice.rights import is_entitled, refusal_to_act


class TestReasons(unittest.TestCase):
    """Every check is made with sign, refuse and may, which refuse alike."""

    def check(self, calls, by, behalf, answer):
        for act in (6, 7, 8):
            with self.subTest(act=act):
                answered = told(*calls, [act, by, behalf, 0])
                self.assertNotIn(-2, answered)
                self.assertEqual(min(answered[-1], 0), answer)


class TestEachReason(TestReasons):
    def test_3_it_is_not_under_way(self):
        calls = [person(1), person(1), procedure(step()), file(0)]
        self.check(calls, 1, 1, 0)
        self.check(calls + [sign(0)], 1, 1, -3)
        self.check(calls + [refuse(0)], 1, 1, -3)

    def test_4_nobody_acts_for_another(self):
        calls = [person(1), person(1, 0), procedure(step()), file(0)]
        self.check(calls, 0, 1, -4)
        self.check(calls, 1, 0, -4)
        self.check(calls, 1, 1, 0)

    def test_5_the_role_is_not_held(self):
        calls = [person(1), person(2), person(65533), procedure(step(1)), file(0)]
        self.check(calls, 0, 0, -5)
        self.check(calls, 1, 1, 0)
        self.check(calls, 2, 2, -5)

    def test_5_it_is_the_role_of_the_step_where_the_paper_is(self):
        calls = [person(1), person(2), procedure(step(0), step(1)), file(0), sign(0)]
        self.check(calls, 0, 0, -5)
        self.check(calls, 1, 1, 0)

    def test_5_at_level_0_no_chief_acts(self):
        calls = [person(0), person(1, 0), person(0, 1), procedure(step()), file(0)]
        self.check(calls, 0, 0, -5)
        self.check(calls, 1, 1, 0)
        self.check(calls, 2, 2, -5)

    def test_6_the_writer_may_not(self):
        calls = [person(1), person(1), procedure(step(writer_may_sign=0)), file(0)]
        self.check(calls, 0, 0, -6)
        self.check(calls, 1, 1, 0)

    def test_6_the_writer_may(self):
        self.check([person(1), procedure(step(writer_may_sign=1)), file(0)], 0, 0, 0)

    def test_6_it_is_told_step_by_step(self):
        calls = [person(1), person(1), procedure(step(), step(writer_may_sign=0)), file(0), sign(0)]
        self.check(calls, 0, 0, -6)
        self.check(calls, 1, 1, 0)

    def test_7_not_twice_at_one_step_in_one_round(self):
        calls = [person(1), person(1), procedure(step(signatures=2)), file(0), sign(1)]
        self.check(calls, 1, 1, -7)
        self.check(calls, 0, 0, 0)

    def test_7_again_in_another_round(self):
        calls = [person(1), person(1), procedure(step(signatures=2, back=0)), file(0), sign(0), refuse(1)]
        self.check(calls, 0, 0, 0)
        self.check(calls, 1, 1, 0)
        self.check(calls + [sign(1)], 1, 1, -7)

    def test_7_again_at_another_step(self):
        self.check([person(1), procedure(step(), step()), file(0), sign(0)], 0, 0, 0)

    def test_9_not_in_two_roles_that_are_kept_apart(self):
        calls = [person(3), person(2), procedure(step(0), step(1)), file(0), sign(0)]
        self.check([apart(0, 1)] + calls, 0, 0, -9)
        self.check([apart(1, 0)] + calls, 0, 0, -9)
        self.check([apart(0, 1)] + calls, 1, 1, 0)
        self.check(calls, 0, 0, 0)

    def test_9_a_refusal_is_an_act_too_and_an_earlier_round_counts(self):
        calls = [apart(0, 1), person(1), person(3), procedure(step(0), step(1, back=0)), file(0), sign(0), refuse(1)]
        self.check(calls, 0, 0, 0)
        self.check(calls, 1, 1, -9)

    def test_9_any_step_before_counts_not_the_last_one_alone(self):
        calls = [apart(0, 2), person(5), person(2), procedure(step(0), step(1), step(2)), file(0), sign(0), sign(1)]
        self.check(calls, 0, 0, -9)

    def test_9_a_role_kept_apart_from_itself(self):
        other_step = [person(1), person(1), procedure(step(), step()), file(0), sign(0)]
        self.check([apart(0, 0)] + other_step, 0, 0, -9)
        self.check([apart(0, 0)] + other_step, 1, 1, 0)
        self.check([apart(1, 1)] + other_step, 0, 0, 0)
        same_step = [person(1), person(1), procedure(step(back=0)), file(0), refuse(0)]
        self.check([apart(0, 0)] + same_step, 0, 0, -9)
        self.check([apart(0, 0)] + same_step, 1, 1, 0)
        self.check(same_step, 0, 0, 0)

    def test_9_another_paper_does_not_count(self):
        calls = [apart(0, 1), person(3), person(1), procedure(step(0), step(1)), file(0), file(0)]
        self.check(calls + [sign(0, 1), sign(1, 0)], 0, 0, 0)

    def test_9_the_role_of_the_step_counts_not_what_else_is_held(self):
        self.check([apart(0, 1), person(3), procedure(step(0), step(2)), file(0), roles(0, 7), sign(0)], 0, 0, 0)


class TestTwoReasons(TestReasons):
    """The one told first counts; the other is shown to hold as well, where that can be."""

    def test_3_before_4(self):
        calls = [person(1), person(1), procedure(step()), file(0)]
        self.check(calls, 0, 1, -4)
        self.check(calls + [sign(0)], 0, 1, -3)

    def test_3_before_5(self):
        calls = [person(1), person(0), procedure(step()), file(0)]
        self.check(calls, 1, 1, -5)
        self.check(calls + [sign(0)], 1, 1, -3)

    def test_3_before_6(self):
        calls = [person(1), person(1), procedure(step(writer_may_sign=0)), file(0)]
        self.check(calls, 0, 0, -6)
        self.check(calls + [sign(1)], 0, 0, -3)

    def test_3_before_7(self):
        calls = [person(1), person(1), procedure(step(signatures=2)), file(0), sign(0)]
        self.check(calls, 0, 0, -7)
        self.check(calls + [sign(1)], 0, 0, -3)

    def test_3_before_9(self):
        calls = [apart(0, 1), person(3), person(2), procedure(step(0), step(1)), file(0), sign(0)]
        self.check(calls, 0, 0, -9)
        self.check(calls + [sign(1)], 0, 0, -3)

    def test_4_before_5(self):
        calls = [person(1), person(0), procedure(step()), file(0)]
        self.check(calls, 1, 1, -5)
        self.check(calls, 0, 1, -4)

    def test_4_before_6(self):
        calls = [person(1), person(1), procedure(step(writer_may_sign=0)), file(0)]
        self.check(calls, 0, 1, -4)
        self.check(calls, 1, 0, -4)

    def test_4_before_7(self):
        calls = [person(1), person(1), procedure(step(signatures=2)), file(0), sign(0)]
        self.check(calls, 0, 1, -4)
        self.check(calls, 1, 0, -4)

    def test_4_before_9(self):
        calls = [apart(0, 1), person(3), person(3), procedure(step(0), step(1)), file(0), sign(0)]
        self.check(calls, 0, 1, -4)
        self.check(calls, 1, 0, -4)

    def test_5_before_6(self):
        calls = [person(0), person(1), procedure(step(writer_may_sign=0)), file(0)]
        self.check(calls, 0, 0, -5)
        self.check(calls + [roles(0, 1)], 0, 0, -6)

    def test_5_before_7(self):
        calls = [person(1), person(1), procedure(step(signatures=2)), file(0), sign(0)]
        self.check(calls, 0, 0, -7)
        self.check(calls + [roles(0, 2)], 0, 0, -5)

    def test_5_before_9(self):
        calls = [apart(0, 1), person(3), procedure(step(0), step(1)), file(0), sign(0)]
        self.check(calls, 0, 0, -9)
        self.check(calls + [roles(0, 1)], 0, 0, -5)

    def test_6_before_9(self):
        calls = [apart(0, 1), person(3), procedure(step(0), step(1, writer_may_sign=0)), file(0), sign(0)]
        self.check(calls, 0, 0, -6)

    def test_7_before_9(self):
        calls = [apart(0, 0), person(1), person(1), procedure(step(signatures=2)), file(1), sign(0)]
        self.check(calls, 0, 0, -7)


class TestActingForAnother(unittest.TestCase):
    """No call here names who acts for whom, so the office is told by hand."""

    def setUp(self):
        self.office = Office()
        for held in (3, 3, 3, 0):
            add_person(self.office, held, -1)

    def stand_in(self, number, other, until):
        self.office.people[number].stand_in = other
        self.office.people[number].stand_in_until = until

    def paper(self, writer, *steps):
        add_procedure(self.office, [number for each in steps for number in each])
        file_paper(self.office, writer, 0)
        return self.office.papers[0]

    def may(self, by, behalf, paper):
        return refusal_to_act(self.office, by, behalf, paper)

    def test_4_up_to_that_day(self):
        paper = self.paper(2, step())
        self.office.today = 7
        for until, answer in ((6, -4), (7, 0), (8, 0)):
            self.stand_in(0, 1, until)
            with self.subTest(until=until):
                self.assertEqual(self.may(1, 0, paper), answer)

    def test_4_only_that_other_and_only_for_them(self):
        paper = self.paper(2, step())
        self.stand_in(0, 1, 0)
        self.stand_in(1, 2, 0)
        self.assertEqual([self.may(1, 0, paper), self.may(2, 1, paper)], [0, 0])
        self.assertEqual([self.may(0, 1, paper), self.may(2, 0, paper), self.may(1, 2, paper)], [-4, -4, -4])

    def test_5_the_one_acted_for_is_to_be_entitled(self):
        paper = self.paper(2, step())
        self.stand_in(0, 3, 0)
        self.stand_in(3, 0, 0)
        self.assertEqual(self.may(3, 0, paper), 0)
        self.assertEqual(self.may(0, 3, paper), -5)

    def test_6_the_writer_is_by_or_for(self):
        paper = self.paper(0, step(writer_may_sign=0))
        self.stand_in(0, 1, 0)
        self.stand_in(1, 0, 0)
        self.stand_in(2, 1, 0)
        self.assertEqual([self.may(1, 0, paper), self.may(0, 1, paper), self.may(1, 2, paper)], [-6, -6, 0])

    def test_6_the_writer_may_be_either_where_it_is_allowed(self):
        paper = self.paper(0, step(writer_may_sign=1))
        self.stand_in(0, 1, 0)
        self.stand_in(1, 0, 0)
        self.assertEqual([self.may(1, 0, paper), self.may(0, 1, paper)], [0, 0])

    def check_both_are_bound(self, paper, answer):
        """When 1 has acted for 0, neither may act again, nor be acted for."""
        self.stand_in(0, 1, 0)
        self.assertEqual(sign_paper(self.office, 1, 0, 0), 0)
        for by, behalf in ((0, 0), (1, 1), (1, 0), (0, 1), (1, 2), (2, 1), (0, 2), (2, 0)):
            if by != behalf:
                self.stand_in(behalf, by, 0)
            with self.subTest(by=by, behalf=behalf):
                self.assertEqual(self.may(by, behalf, paper), answer)
        self.stand_in(2, 3, 0)
        self.assertEqual([self.may(2, 2, paper), self.may(3, 2, paper)], [0, 0])

    def test_7_either_has_acted_or_been_acted_for(self):
        self.check_both_are_bound(self.paper(3, step(signatures=3)), -7)

    def test_9_either_has_acted_or_been_acted_for(self):
        keep_apart(self.office, 0, 1)
        self.check_both_are_bound(self.paper(3, step(0), step(1)), -9)

    def test_6_before_7(self):
        paper = self.paper(0, step(signatures=2, writer_may_sign=0))
        self.assertEqual(sign_paper(self.office, 1, 1, 0), 0)
        self.assertEqual(self.may(1, 1, paper), -7)
        self.stand_in(1, 0, 0)
        self.assertEqual(self.may(0, 1, paper), -6)

    def test_one_act_is_one_signature(self):
        self.paper(3, step(signatures=2))
        self.stand_in(0, 1, 0)
        self.assertEqual(sign_paper(self.office, 1, 0, 0), 0)
        self.assertEqual(sign_paper(self.office, 2, 2, 0), 1)
        noted = [(act.by, act.behalf) for act in self.office.papers[0].acts]
        self.assertEqual(noted, [(1, 0), (2, 2)])


class TestLevels(unittest.TestCase):
    """No call here lets days pass, so a paper's level is told by hand."""

    def setUp(self):
        self.office = Office()
        for held, chief in ((0, -1), (0, 0), (0, 1), (1, 2), (0, 3), (0, -1), (1, 5)):
            add_person(self.office, held, chief)
        add_procedure(self.office, step())
        file_paper(self.office, 4, 0)
        self.paper = self.office.papers[0]

    def test_chiefs_up_to_the_level_are_entitled(self):
        wanted = {0: [3, 6], 1: [2, 3, 5, 6], 2: [1, 2, 3, 5, 6], 3: [0, 1, 2, 3, 5, 6], 5: [0, 1, 2, 3, 5, 6]}
        for level, entitled in wanted.items():
            self.paper.level = level
            with self.subTest(level=level):
                self.assertEqual([number for number in range(7) if is_entitled(self.office, number, 0, level)], entitled)
                self.assertEqual([number for number in range(7)
                                  if refusal_to_act(self.office, number, number, self.paper) == 0], entitled)

    def test_where_there_is_no_chief_it_goes_no_higher(self):
        office = Office()
        for held, chief in ((0, -1), (1, -1), (0, 0)):
            add_person(office, held, chief)
        self.assertEqual([is_entitled(office, number, 0, 5) for number in range(3)], [False, True, False])


if __name__ == "__main__":
    unittest.main()

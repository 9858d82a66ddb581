"""Point 6: each reason why somebody may not act, and which of two reasons counts."""

import unittest

from calls import apart, away, days, file, pass_days, person, procedure, refuse, roles, sign, step, told, withdraw


class TestReasons(unittest.TestCase):
    """Every check is made with sign, refuse and may, which refuse alike."""

    def check(self, calls, by, behalf, answer):
        for act in (6, 7, 8):
            with self.subTest(act=act):
                answered = told(*calls, [act, by, behalf, 0])
                self.assertNotIn(-2, answered)
                self.assertEqual(min(answered[-1], 0), answer)


class TestEachReason(TestReasons):
    def test_3_it_is_not_under_way(self):
        calls = [person(1), person(1), procedure(step()), file(0)]
        self.check(calls, 1, 1, 0)
        for end in (sign(0), refuse(0), withdraw(0), days(12)):
            self.check(calls + [end], 1, 1, -3)

    def test_4_nobody_acts_for_another_unless_it_was_said(self):
        calls = [person(1), person(1, 0), procedure(step()), file(0)]
        self.check(calls, 0, 1, -4)
        self.check(calls, 1, 0, -4)
        self.check(calls, 1, 1, 0)

    def test_5_the_role_is_not_held(self):
        calls = [person(1), person(2), person(65533), procedure(step(1)), file(0)]
        self.check(calls, 0, 0, -5)
        self.check(calls, 1, 1, 0)
        self.check(calls, 2, 2, -5)

    def test_5_it_is_the_role_of_the_step_where_the_paper_is(self):
        calls = [person(1), person(2), procedure(step(0), step(1)), file(0), sign(0)]
        self.check(calls, 0, 0, -5)
        self.check(calls, 1, 1, 0)

    def test_5_at_level_0_no_chief_acts(self):
        calls = [person(0), person(1, 0), person(0, 1), procedure(step()), file(0)]
        self.check(calls, 0, 0, -5)
        self.check(calls, 1, 1, 0)
        self.check(calls, 2, 2, -5)

    def test_6_the_writer_may_not(self):
        calls = [person(1), person(1), procedure(step(writer_may_sign=0)), file(0)]
        self.check(calls, 0, 0, -6)
        self.check(calls, 1, 1, 0)

    def test_6_the_writer_may(self):
        self.check([person(1), procedure(step(writer_may_sign=1)), file(0)], 0, 0, 0)

    def test_6_it_is_told_step_by_step(self):
        calls = [person(1), person(1), procedure(step(), step(writer_may_sign=0)), file(0), sign(0)]
        self.check(calls, 0, 0, -6)
        self.check(calls, 1, 1, 0)

    def test_7_not_twice_at_one_step_in_one_round(self):
        calls = [person(1), person(1), procedure(step(signatures=2)), file(0), sign(1)]
        self.check(calls, 1, 1, -7)
        self.check(calls, 0, 0, 0)

    def test_7_again_in_another_round(self):
        calls = [person(1), person(1), procedure(step(signatures=2, back=0)), file(0), sign(0), refuse(1)]
        self.check(calls, 0, 0, 0)
        self.check(calls, 1, 1, 0)
        self.check(calls + [sign(1)], 1, 1, -7)

    def test_7_again_at_another_step(self):
        self.check([person(1), procedure(step(), step()), file(0), sign(0)], 0, 0, 0)

    def test_9_not_in_two_roles_that_are_kept_apart(self):
        calls = [person(3), person(2), procedure(step(0), step(1)), file(0), sign(0)]
        self.check([apart(0, 1)] + calls, 0, 0, -9)
        self.check([apart(1, 0)] + calls, 0, 0, -9)
        self.check([apart(0, 1)] + calls, 1, 1, 0)
        self.check(calls, 0, 0, 0)

    def test_9_a_refusal_is_an_act_too_and_an_earlier_round_counts(self):
        calls = [apart(0, 1), person(1), person(3), procedure(step(0), step(1, back=0)), file(0), sign(0), refuse(1)]
        self.check(calls, 0, 0, 0)
        self.check(calls, 1, 1, -9)

    def test_9_any_step_before_counts_not_the_last_one_alone(self):
        calls = [apart(0, 2), person(5), person(2), procedure(step(0), step(1), step(2)), file(0), sign(0), sign(1)]
        self.check(calls, 0, 0, -9)

    def test_9_a_role_kept_apart_from_itself(self):
        other_step = [person(1), person(1), procedure(step(), step()), file(0), sign(0)]
        self.check([apart(0, 0)] + other_step, 0, 0, -9)
        self.check([apart(0, 0)] + other_step, 1, 1, 0)
        self.check([apart(1, 1)] + other_step, 0, 0, 0)
        same_step = [person(1), person(1), procedure(step(back=0)), file(0), refuse(0)]
        self.check([apart(0, 0)] + same_step, 0, 0, -9)
        self.check([apart(0, 0)] + same_step, 1, 1, 0)
        self.check(same_step, 0, 0, 0)

    def test_9_another_paper_does_not_count(self):
        calls = [apart(0, 1), person(3), person(1), procedure(step(0), step(1)), file(0), file(0)]
        self.check(calls + [sign(0, 1), sign(1, 0)], 0, 0, 0)

    def test_9_the_role_of_the_step_counts_not_what_else_is_held(self):
        self.check([apart(0, 1), person(3), procedure(step(0), step(2)), file(0), roles(0, 7), sign(0)], 0, 0, 0)


class TestTwoReasons(TestReasons):
    """The one told first counts; the other is shown to hold as well, where that can be."""

    def test_3_before_4(self):
        calls = [person(1), person(1), procedure(step()), file(0)]
        self.check(calls, 0, 1, -4)
        self.check(calls + [sign(0)], 0, 1, -3)

    def test_3_before_5(self):
        calls = [person(1), person(0), procedure(step()), file(0)]
        self.check(calls, 1, 1, -5)
        self.check(calls + [sign(0)], 1, 1, -3)

    def test_3_before_6(self):
        calls = [person(1), person(1), procedure(step(writer_may_sign=0)), file(0)]
        self.check(calls, 0, 0, -6)
        self.check(calls + [sign(1)], 0, 0, -3)

    def test_3_before_7(self):
        calls = [person(1), person(1), procedure(step(signatures=2)), file(0), sign(0)]
        self.check(calls, 0, 0, -7)
        self.check(calls + [sign(1)], 0, 0, -3)

    def test_3_before_9(self):
        calls = [apart(0, 1), person(3), person(2), procedure(step(0), step(1)), file(0), sign(0)]
        self.check(calls, 0, 0, -9)
        self.check(calls + [sign(1)], 0, 0, -3)

    def test_4_before_5(self):
        calls = [person(1), person(0), procedure(step()), file(0)]
        self.check(calls, 1, 1, -5)
        self.check(calls, 0, 1, -4)

    def test_4_before_6(self):
        calls = [person(1), person(1), procedure(step(writer_may_sign=0)), file(0)]
        self.check(calls, 0, 1, -4)
        self.check(calls, 1, 0, -4)

    def test_4_before_7(self):
        calls = [person(1), person(1), procedure(step(signatures=2)), file(0), sign(0)]
        self.check(calls, 0, 1, -4)
        self.check(calls, 1, 0, -4)

    def test_4_before_9(self):
        calls = [apart(0, 1), person(3), person(3), procedure(step(0), step(1)), file(0), sign(0)]
        self.check(calls, 0, 1, -4)
        self.check(calls, 1, 0, -4)

    def test_5_before_6(self):
        calls = [person(0), person(1), procedure(step(writer_may_sign=0)), file(0)]
        self.check(calls, 0, 0, -5)
        self.check(calls + [roles(0, 1)], 0, 0, -6)

    def test_5_before_7(self):
        calls = [person(1), person(1), procedure(step(signatures=2)), file(0), sign(0)]
        self.check(calls, 0, 0, -7)
        self.check(calls + [roles(0, 2)], 0, 0, -5)

    def test_5_before_9(self):
        calls = [apart(0, 1), person(3), procedure(step(0), step(1)), file(0), sign(0)]
        self.check(calls, 0, 0, -9)
        self.check(calls + [roles(0, 1)], 0, 0, -5)

    def test_6_before_9(self):
        calls = [apart(0, 1), person(3), procedure(step(0), step(1, writer_may_sign=0)), file(0), sign(0)]
        self.check(calls, 0, 0, -6)

    def test_7_before_9(self):
        calls = [apart(0, 0), person(1), person(1), procedure(step(signatures=2)), file(1), sign(0)]
        self.check(calls, 0, 0, -7)


class TestActingForAnother(TestReasons):
    HOUSE = [person(3), person(3), person(3), person(0)]

    def test_3_before_4_to_9_for_another_too(self):
        calls = self.HOUSE + [procedure(step()), file(2), away(0, 1, 9)]
        self.check(calls, 1, 0, 0)
        for end in (sign(0), refuse(0), withdraw(2), days(12)):
            self.check(calls + [end], 1, 0, -3)

    def test_4_only_that_other_and_only_for_them(self):
        calls = self.HOUSE + [procedure(step()), file(2), away(0, 1, 0), away(1, 2, 0)]
        for by, behalf, answer in ((1, 0, 0), (2, 1, 0), (0, 1, -4), (2, 0, -4), (1, 2, -4), (3, 0, -4)):
            self.check(calls, by, behalf, answer)

    def test_4_before_5_6_7_9_when_the_day_is_over(self):
        nobody_else = self.HOUSE + [procedure(step(days=30, signatures=3, writer_may_sign=0)), file(0)]
        for by, behalf, answer in ((1, 3, -5), (1, 0, -6), (0, 1, -6)):
            self.check(nobody_else + [away(behalf, by, 2), days(2)], by, behalf, answer)
            self.check(nobody_else + [away(behalf, by, 2), days(3)], by, behalf, -4)
        signed = nobody_else + [sign(1), away(1, 2, 2), days(2)]
        self.check(signed, 2, 1, -7)
        self.check(signed + [days(1)], 2, 1, -4)
        kept_apart = [apart(0, 1)] + self.HOUSE + [procedure(step(0), step(1, days=30)), file(3), sign(1), away(1, 2, 2)]
        self.check(kept_apart, 2, 1, -9)
        self.check(kept_apart + [days(3)], 2, 1, -4)

    def test_5_the_one_acted_for_is_to_be_entitled(self):
        calls = self.HOUSE + [procedure(step()), file(2), away(0, 3, 0), away(3, 0, 0)]
        self.check(calls, 3, 0, 0)
        self.check(calls, 0, 3, -5)

    def test_5_before_6_7_9_for_another_too(self):
        writer = self.HOUSE + [procedure(step(writer_may_sign=0)), file(0), away(3, 0, 0)]
        self.check(writer, 0, 3, -5)
        signed = self.HOUSE + [procedure(step(signatures=2)), file(0), sign(1), away(3, 1, 0)]
        self.check(signed, 1, 3, -5)
        kept_apart = [apart(0, 1)] + self.HOUSE + [procedure(step(0), step(1)), file(0), sign(1), away(3, 1, 0)]
        self.check(kept_apart, 1, 3, -5)

    def test_6_the_writer_is_by_or_for(self):
        calls = self.HOUSE + [procedure(step(writer_may_sign=0)), file(0), away(0, 1, 0), away(1, 0, 0), away(2, 1, 0)]
        for by, behalf, answer in ((1, 0, -6), (0, 1, -6), (1, 2, 0)):
            self.check(calls, by, behalf, answer)

    def test_6_the_writer_may_be_either_where_it_is_allowed(self):
        calls = self.HOUSE + [procedure(step(writer_may_sign=1)), file(0), away(0, 1, 0), away(1, 0, 0)]
        self.check(calls, 1, 0, 0)
        self.check(calls, 0, 1, 0)

    def check_both_are_bound(self, calls, act, answer):
        """When 1 has acted for 0, neither may act again, nor be acted for."""
        before = calls + [away(0, 1, 0), act(1, behalf=0)]
        for by, behalf in ((0, 0), (1, 1), (1, 0), (0, 1), (1, 2), (2, 1), (0, 2), (2, 0)):
            named = [away(behalf, by, 0)] if by != behalf else []
            self.check(before + named, by, behalf, answer)
        self.check(before, 2, 2, 0)
        self.check(before + [away(2, 3, 0)], 3, 2, 0)

    def test_7_either_has_acted_or_been_acted_for(self):
        calls = self.HOUSE + [procedure(step(signatures=3, back=0)), file(3)]
        self.check_both_are_bound(calls, sign, -7)
        # A refusal ends the round, and with it what was done at the step.
        self.check_both_are_bound(calls, refuse, 0)

    def test_9_either_has_acted_or_been_acted_for(self):
        calls = [apart(0, 1), apart(0, 0)] + self.HOUSE + [procedure(step(0, back=0), step(1)), file(3)]
        self.check_both_are_bound(calls, sign, -9)
        self.check_both_are_bound(calls, refuse, -9)

    def test_6_before_7(self):
        calls = self.HOUSE + [procedure(step(signatures=2, writer_may_sign=0)), file(0), sign(1)]
        self.check(calls, 1, 1, -7)
        self.check(calls + [away(1, 0, 0)], 0, 1, -6)

    def test_one_act_is_one_signature(self):
        calls = self.HOUSE + [procedure(step(signatures=2)), file(3), away(0, 1, 0), sign(1, behalf=0), sign(2)]
        self.assertEqual(told(*calls)[-2:], [0, 1])


class TestLevels(TestReasons):
    """3 and 6 hold the role; 3's chiefs are 2, 1 and 0, 6's is 5; 4 is below 3."""

    HOUSE = [person(0), person(0, 0), person(0, 1), person(1, 2), person(0, 3), person(0), person(1, 5)]
    CALLS = HOUSE + [procedure(step(days=2)), file(4)]

    def test_chiefs_up_to_the_level_are_entitled(self):
        wanted = {0: [3, 6], 1: [2, 3, 5, 6], 2: [1, 2, 3, 5, 6], 3: [0, 1, 2, 3, 5, 6], 4: [0, 1, 2, 3, 5, 6],
                  5: [0, 1, 2, 3, 5, 6]}
        for level, entitled in wanted.items():
            for number in range(7):
                self.check(self.CALLS + pass_days(3 * level), number, number, 0 if number in entitled else -5)

    def test_where_there_is_no_chief_it_goes_no_higher(self):
        calls = [person(0), person(1), person(0, 0), procedure(step()), file(0), days(10)]
        for number, answer in ((0, -5), (1, 0), (2, -5)):
            self.check(calls, number, number, answer)

    def test_one_may_act_for_a_chief(self):
        calls = self.CALLS + [away(2, 4, 9), away(1, 4, 9)]
        self.check(calls, 4, 2, -5)
        self.check(calls + [days(3)], 4, 2, 0)
        self.check(calls + [days(3)], 4, 1, -5)
        self.check(calls + [days(6)], 4, 1, 0)

    def test_a_chief_who_wrote_it_may_not_where_the_writer_may_not(self):
        calls = self.HOUSE + [procedure(step(days=2, writer_may_sign=0)), file(2)]
        self.check(calls, 2, 2, -5)
        self.check(calls + [days(3)], 2, 2, -6)

    def test_a_chief_who_has_acted_may_not_again(self):
        calls = self.HOUSE + [procedure(step(signatures=2, days=2)), file(4), days(3), sign(2)]
        self.check(calls, 2, 2, -7)
        self.check(calls, 5, 5, 0)

    def test_a_chief_acts_in_the_role_of_the_step(self):
        calls = [apart(0, 1)] + self.HOUSE + [roles(2, 2), procedure(step(0, days=2), step(1)), file(4), days(3)]
        self.check(calls + [sign(2)], 2, 2, -9)
        self.check(calls + [sign(3)], 2, 2, 0)


if __name__ == "__main__":
    unittest.main()

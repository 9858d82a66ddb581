"""Point 9: days, papers that rise, papers that lapse."""

import unittest

from calls import (LEAST, MOST, days, file, last, last_row, may, pass_days, person, procedure, refuse, rows, sign, step,
                   tell, told, who, withdraw)

UNDER_WAY = 0
LAPSED = 4


def state_level_due(*calls, paper=0):
    row = last_row(*calls, tell(paper))
    return (row[0], row[5], row[6])


class TestDays(unittest.TestCase):
    def test_the_day_it_is_then(self):
        self.assertEqual(told(days(1), days(1), days(30), days(5)), [1, 2, 32, 37])

    def test_1_to_30(self):
        for count in range(1, 31):
            with self.subTest(count=count):
                self.assertEqual(told(days(count)), [count])

    def test_numbers_that_may_not_be(self):
        for count in (LEAST, -30, -1, 0, 31, 32, MOST):
            with self.subTest(count=count):
                self.assertEqual(told(days(2), days(count), days(1)), [2, -2, 3])

    def test_350_times_30_days(self):
        self.assertEqual(told(*[days(30)] * 350), list(range(30, 10501, 30)))


class TestRising(unittest.TestCase):
    def house(self, count):
        return [person(1), procedure(step(days=count)), file(0)]

    def test_due_today_it_does_not_rise_due_yesterday_it_does(self):
        for count in (1, 2, 7, 29, 30):
            with self.subTest(count=count):
                calls = self.house(count)
                self.assertEqual(state_level_due(*calls), (UNDER_WAY, 0, count))
                self.assertEqual(state_level_due(*calls, days(count)), (UNDER_WAY, 0, count))
                self.assertEqual(state_level_due(*calls, days(count), days(1)), (UNDER_WAY, 1, 2 * count + 1))

    def test_levels_0_to_5_and_then_lapsed(self):
        for count in (1, 3, 30):
            for level in range(6):
                with self.subTest(count=count, level=level):
                    calls = self.house(count) + pass_days(level * (count + 1))
                    due = level * (count + 1) + count
                    self.assertEqual(state_level_due(*calls), (UNDER_WAY, level, due))
                    self.assertEqual(state_level_due(*calls, *pass_days(count)), (UNDER_WAY, level, due))
            calls = self.house(count) + pass_days(6 * (count + 1))
            self.assertEqual(state_level_due(*calls), (LAPSED, 5, 6 * (count + 1) - 1))

    def test_a_lapsed_paper_stays_as_it_is(self):
        calls = self.house(1) + [days(12)]
        told_first = last_row(*calls, tell())
        self.assertEqual(told_first, [LAPSED, 0, 0, 0, 0, 5, 11, 0])
        self.assertEqual(last_row(*calls, days(30), days(30), tell()), told_first)
        self.assertEqual(told(*calls, may(0), sign(0), refuse(0), withdraw(0))[-4:], [-3, -3, -3, -3])

    def test_many_days_in_one_call_are_as_many_calls_of_one_day(self):
        for count in (1, 2, 3, 4, 9):
            for passed in range(1, 31):
                with self.subTest(count=count, passed=passed):
                    self.assertEqual(state_level_due(*self.house(count), days(passed)),
                                     state_level_due(*self.house(count), *[days(1)] * passed))

    def test_day_by_day_in_one_call(self):
        wanted = {1: (0, 0, 1), 2: (0, 1, 3), 3: (0, 1, 3), 4: (0, 2, 5), 5: (0, 2, 5), 6: (0, 3, 7), 8: (0, 4, 9),
                  10: (0, 5, 11), 11: (0, 5, 11), 12: (4, 5, 11), 30: (4, 5, 11)}
        for passed, answer in wanted.items():
            with self.subTest(passed=passed):
                self.assertEqual(state_level_due(*self.house(1), days(passed)), answer)

    def test_it_is_due_from_the_day_it_rose_on(self):
        self.assertEqual(state_level_due(*self.house(10), days(30)), (UNDER_WAY, 2, 32))

    def test_days_that_are_refused_raise_nothing(self):
        self.assertEqual(state_level_due(*self.house(1), days(1), days(0), days(31), days(-1)), (UNDER_WAY, 0, 1))

    def test_filed_later_it_is_due_from_that_day(self):
        calls = [person(1), procedure(step(days=4)), days(9), file(0)]
        self.assertEqual(state_level_due(*calls), (UNDER_WAY, 0, 13))
        self.assertEqual(state_level_due(*calls, days(4)), (UNDER_WAY, 0, 13))
        self.assertEqual(state_level_due(*calls, days(5)), (UNDER_WAY, 1, 18))


class TestSeveralPapers(unittest.TestCase):
    def test_each_rises_by_its_own_step(self):
        calls = [person(1), procedure(step(days=1)), procedure(step(days=5)), procedure(step(days=30)),
                 file(0, 2), file(0, 0), file(0, 1), days(3), file(0, 0)]
        answered = rows(*calls, days(9), tell(0), tell(1), tell(2), tell(3))[-4:]
        self.assertEqual([(row[0], row[5], row[6]) for row in answered], [(0, 0, 30), (4, 5, 11), (0, 2, 17), (0, 4, 12)])

    def test_all_that_are_late_rise_on_one_day(self):
        calls = [person(1), procedure(step(days=2))] + [file(0)] * 20 + [days(3)]
        answered = rows(*calls, *[tell(number) for number in range(20)])[-20:]
        self.assertEqual([(row[5], row[6]) for row in answered], [(1, 5)] * 20)

    def test_one_that_is_not_under_way_stays_as_it_is(self):
        calls = [person(1), procedure(step())] + [file(0)] * 4 + [sign(0, 0), refuse(0, 1), withdraw(0, 2)]
        told_first = rows(*calls, *[tell(number) for number in range(3)])[-3:]
        self.assertEqual([row[0] for row in told_first], [1, 2, 3])
        for passed in (1, 2, 12, 30):
            with self.subTest(passed=passed):
                self.assertEqual(rows(*calls, days(passed), *[tell(number) for number in range(3)])[-3:], told_first)
        self.assertEqual(state_level_due(*calls, days(2), paper=3), (UNDER_WAY, 1, 3))

    def test_brought_to_an_end_above_level_0_it_keeps_its_level_and_day(self):
        calls = [person(1), procedure(step(back=-1))] + [file(0)] * 3 + [days(5), sign(0, 0), refuse(0, 1), withdraw(0, 2)]
        for passed in ([], [days(30)]):
            answered = rows(*calls, *passed, tell(0), tell(1), tell(2))[-3:]
            self.assertEqual([(row[0], row[5], row[6]) for row in answered], [(1, 2, 5), (2, 2, 5), (3, 2, 5)])


class TestComingAgain(unittest.TestCase):
    def test_coming_to_the_next_step_it_is_at_level_0(self):
        calls = [person(1), procedure(step(days=1), step(days=7)), file(0), days(10)]
        self.assertEqual(state_level_due(*calls), (UNDER_WAY, 5, 11))
        self.assertEqual(state_level_due(*calls, sign(0)), (UNDER_WAY, 0, 17))

    def test_coming_to_a_step_again_it_is_at_level_0(self):
        calls = [person(1), procedure(step(days=3, back=0)), file(0), days(4)]
        self.assertEqual(state_level_due(*calls), (UNDER_WAY, 1, 7))
        self.assertEqual(state_level_due(*calls, refuse(0)), (UNDER_WAY, 0, 7))
        self.assertEqual(state_level_due(*calls, days(1), refuse(0)), (UNDER_WAY, 0, 8))

    def test_a_signature_that_is_not_the_last_leaves_level_and_day(self):
        calls = [person(1), person(1), procedure(step(signatures=2, days=3)), file(0), days(5)]
        self.assertEqual(state_level_due(*calls, sign(0)), (UNDER_WAY, 1, 7))
        self.assertEqual(state_level_due(*calls, sign(0), days(3)), (UNDER_WAY, 2, 11))

    def test_signed_on_the_last_day_it_does_not_lapse(self):
        calls = [person(1), procedure(step(), step()), file(0), days(11)]
        self.assertEqual(state_level_due(*calls, sign(0), days(1)), (UNDER_WAY, 0, 12))
        self.assertEqual(last(*calls, days(1), sign(0)), -3)


class TestWhoMayActAtALevel(unittest.TestCase):
    """0 is chief of 1, 1 of 2, and so on up to 8, who alone holds the role; 9 is chief of nobody, 10's chief is 8."""

    HOUSE = [person(0)] + [person(0, number) for number in range(7)] + [person(1, 7), person(0), person(0, 8),
             procedure(step(days=1)), file(9)]

    def test_a_chief_a_chief_s_chief_and_no_further(self):
        for level in range(6):
            with self.subTest(level=level):
                entitled = list(range(8 - level, 9))
                calls = self.HOUSE + pass_days(2 * level)
                self.assertEqual(last_row(*calls, tell())[5], level)
                self.assertEqual(last_row(*calls, who()), [len(entitled)] + entitled)
                self.assertEqual([last(*calls, may(number)) for number in range(11)],
                                 [0 if number in entitled else -5 for number in range(11)])
                self.assertEqual(last(*calls, sign(8 - level)), 1)
                self.assertEqual(last(*calls, sign(7 - level)), -5)

    def test_lapsed_nobody_may_act(self):
        self.assertEqual(last_row(*self.HOUSE, days(12), who()), [0])
        self.assertEqual(last(*self.HOUSE, days(12), sign(8)), -3)

    def test_at_the_next_step_chiefs_may_not_act_any_more(self):
        calls = [person(0), person(1, 0), procedure(step(), step()), file(0), days(2), sign(0)]
        self.assertEqual(last_row(*calls, who()), [1, 1])
        self.assertEqual(told(*calls, sign(0), sign(1))[-2:], [-5, 1])

    def test_chiefs_of_several_holders(self):
        calls = [person(0), person(0), person(0, 0), person(1, 2), person(1, 1), person(1), procedure(step()), file(0)]
        self.assertEqual(last_row(*calls, who()), [3, 3, 4, 5])
        self.assertEqual(last_row(*calls, days(2), who()), [5, 1, 2, 3, 4, 5])
        self.assertEqual(last_row(*calls, days(4), who()), [6, 0, 1, 2, 3, 4, 5])

    def test_where_nobody_holds_the_role_no_chief_acts_either(self):
        calls = [person(0), person(0, 0), procedure(step()), file(0), days(10)]
        self.assertEqual(last_row(*calls, who()), [0])


if __name__ == "__main__":
    unittest.main()

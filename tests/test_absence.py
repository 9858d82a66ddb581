"""Point 5: away and back, and what they let others do."""

import unittest

from calls import (LEAST, MOST, acts, away, back, days, file, last, last_row, may, pass_days, person, procedure, refuse,
                   roles, sign, step, told, who)

# 0 and 1 hold the role, 2 and 3 don't; nothing of this lapses for 6 times 31 days.
HOUSE = [person(1), person(1), person(0), person(0), procedure(step(days=30)), file(1)]


class TestAway(unittest.TestCase):
    def test_it_answers_0(self):
        self.assertEqual(told(person(0), person(0), away(0, 1, 0), away(1, 0, 1000), away(0, 1, 5))[2:], [0, 0, 0])

    def test_people_there_are_not(self):
        for number in (LEAST, -2, -1, 2, 3, 32, MOST):
            with self.subTest(number=number):
                self.assertEqual(told(person(0), person(0), away(number, 0, 0), away(0, number, 0),
                                      away(number, number, 0))[2:], [-2, -2, -2])

    def test_nobody_there_at_all(self):
        self.assertEqual(told(away(0, 0, 0), away(0, 1, 0), back(0)), [-2, -2, -2])

    def test_it_is_another_who_acts_for_them(self):
        self.assertEqual(told(person(0), person(0), away(0, 0, 0), away(1, 1, 7))[2:], [-2, -2])

    def test_today_to_1000_days_on(self):
        for day in (LEAST, -1000, -1, 1001, 1002, MOST):
            with self.subTest(day=day):
                self.assertEqual(last(person(0), person(0), away(0, 1, day)), -2)
        for day in (0, 1, 999, 1000):
            with self.subTest(day=day):
                self.assertEqual(last(person(0), person(0), away(0, 1, day)), 0)

    def test_today_is_the_day_it_is_then(self):
        before = [person(0), person(0), days(30), days(7)]
        for day, answer in ((LEAST, -2), (0, -2), (36, -2), (37, 0), (38, 0), (1037, 0), (1038, -2), (MOST, -2)):
            with self.subTest(day=day):
                self.assertEqual(last(*before, away(0, 1, day)), answer)

    def test_a_refused_one_leaves_what_was_said_before(self):
        for wrong in (away(0, 3, -1), away(0, 3, 1001), away(0, 4, 5), away(0, 0, 5), away(4, 3, 5), back(4), back(-1)):
            with self.subTest(wrong=wrong):
                self.assertEqual(told(*HOUSE, away(0, 2, 5), wrong, may(2, behalf=0), may(3, behalf=0))[-3:], [-2, 0, -4])

    def test_wrong_in_several_ways_it_is_still_2(self):
        self.assertEqual(told(*HOUSE, away(9, 9, -1), away(0, 9, 1001), away(-1, 0, LEAST))[-3:], [-2, -2, -2])


class TestBack(unittest.TestCase):
    def test_people_there_are_not(self):
        for number in (LEAST, -1, 1, 2, MOST):
            with self.subTest(number=number):
                self.assertEqual(told(person(0), back(number)), [0, -2])

    def test_nobody_acts_for_them(self):
        self.assertEqual(told(*HOUSE, away(0, 2, 5), may(2, behalf=0), back(0), may(2, behalf=0), sign(2, behalf=0))[6:],
                         [0, 0, 0, -4, -4])

    def test_who_was_not_away_may_be_back_too(self):
        self.assertEqual(told(*HOUSE, back(0), back(0), may(0))[6:], [0, 0, 0])

    def test_others_stay_away(self):
        calls = HOUSE + [away(0, 2, 5), away(1, 2, 5), away(2, 3, 5), back(0), back(2)]
        self.assertEqual(told(*calls, may(2, behalf=0), may(2, behalf=1), may(3, behalf=2))[-3:], [-4, 0, -4])

    def test_the_one_who_acts_for_them_comes_back_and_still_does(self):
        self.assertEqual(last(*HOUSE, away(0, 2, 5), back(2), sign(2, behalf=0)), 1)

    def test_away_again(self):
        calls = HOUSE + [away(0, 2, 5), back(0), away(0, 3, 5)]
        self.assertEqual(told(*calls, may(2, behalf=0), may(3, behalf=0))[-2:], [-4, 0])


class TestAwayAndSign(unittest.TestCase):
    def test_up_to_that_day_and_not_behind_it(self):
        for until in (0, 1, 2, 30, 31, 100):
            for act, done in ((sign, 1), (refuse, 2), (may, 0)):
                with self.subTest(until=until, act=act.__name__):
                    calls = HOUSE + [away(0, 2, until)] + pass_days(until)
                    self.assertEqual(last(*calls, act(2, behalf=0)), done)
                    self.assertEqual(last(*calls, days(1), act(2, behalf=0)), -4)
                    self.assertEqual(last(*calls, days(1), act(0)), done)

    def test_1000_days_on(self):
        calls = [person(1), person(0), procedure(step()), away(0, 1, 1000)] + pass_days(1000) + [file(0)]
        self.assertEqual(last(*calls, sign(1, behalf=0)), 1)
        self.assertEqual(last(*calls, days(1), sign(1, behalf=0)), -4)

    def test_said_on_a_later_day(self):
        calls = HOUSE + [days(7), away(0, 2, 7)]
        self.assertEqual(told(*calls, may(2, behalf=0), days(1), may(2, behalf=0))[-3:], [0, 8, -4])

    def test_what_was_said_before_is_gone(self):
        self.assertEqual(told(*HOUSE, away(0, 2, 9), away(0, 3, 5), may(2, behalf=0), may(3, behalf=0))[-2:], [-4, 0])

    def test_a_longer_time_said_before_is_gone(self):
        calls = HOUSE + [away(0, 2, 9), away(0, 2, 3), days(3)]
        self.assertEqual(told(*calls, may(2, behalf=0), days(1), may(2, behalf=0))[-3:], [0, 4, -4])

    def test_a_shorter_time_said_before_is_gone(self):
        calls = HOUSE + [away(0, 2, 3), away(0, 2, 9), days(9)]
        self.assertEqual(told(*calls, may(2, behalf=0), days(1), may(2, behalf=0))[-3:], [0, 10, -4])

    def test_what_was_said_before_does_not_come_again_when_the_new_time_is_over(self):
        calls = HOUSE + [away(0, 2, 9), away(0, 3, 1), days(2)]
        self.assertEqual(told(*calls, may(2, behalf=0), may(3, behalf=0))[-2:], [-4, -4])

    def test_who_is_away_may_still_act_for_themselves(self):
        self.assertEqual(last_row(*HOUSE, away(0, 2, 9), who()), [2, 0, 1])
        self.assertEqual(last(*HOUSE, away(0, 2, 9), sign(0)), 1)

    def test_one_may_act_for_several(self):
        calls = [person(1), person(1), person(0), procedure(step()), file(2), file(2), away(0, 2, 0), away(1, 2, 0)]
        self.assertEqual(told(*calls, sign(2, 0, behalf=0), sign(2, 1, behalf=1))[-2:], [1, 1])

    def test_who_acts_for_somebody_is_not_acted_for_through_them(self):
        calls = HOUSE + [away(0, 2, 9), away(2, 3, 9)]
        self.assertEqual(told(*calls, may(3, behalf=0), may(3, behalf=2), may(2, behalf=0))[-3:], [-4, -5, 0])

    def test_it_does_not_hold_the_other_way_round(self):
        self.assertEqual(last(*HOUSE, away(2, 0, 9), may(2, behalf=0)), -4)

    def test_the_role_is_asked_of_the_one_who_is_acted_for(self):
        calls = HOUSE + [away(0, 2, 9), away(2, 0, 9)]
        self.assertEqual(told(*calls, may(2, behalf=0), may(0, behalf=2), may(2), roles(0, 0), may(2, behalf=0))[-5:],
                         [0, -5, -5, 0, -5])

    def test_two_may_act_for_one_another(self):
        calls = HOUSE + [away(0, 1, 9), away(1, 0, 9)]
        self.assertEqual(told(*calls, may(1, behalf=0), may(0, behalf=1))[-2:], [0, 0])

    def test_it_is_noted_who_acted_for_whom(self):
        self.assertEqual(last_row(*HOUSE, away(0, 2, 9), sign(2, behalf=0), acts()), [1, 0, 0, 2, 0, 1])
        self.assertEqual(last_row(*HOUSE, away(0, 2, 9), refuse(2, behalf=0), acts()), [1, 0, 0, 2, 0, 0])

    def test_what_was_signed_stays_signed_when_they_are_back(self):
        calls = [person(1), person(1), person(0), procedure(step(signatures=2)), file(0), away(0, 2, 0)]
        self.assertEqual(told(*calls, sign(2, behalf=0), back(0), sign(0), sign(1))[-4:], [0, 0, -7, 1])


if __name__ == "__main__":
    unittest.main()

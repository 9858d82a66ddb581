"""Point 8: withdraw."""

import unittest

from calls import (LEAST, MOST, acts, apart, away, days, file, last, last_row, may, person, procedure, refuse, sign,
                   step, tell, told, who, withdraw)

WITHDRAWN = 3
HOUSE = [person(1), person(1), procedure(step(signatures=2, days=4, back=0), step()), file(0)]


class TestWithdraw(unittest.TestCase):
    def test_the_writer_does(self):
        self.assertEqual(last(*HOUSE, withdraw(0)), 0)
        self.assertEqual(last_row(*HOUSE, withdraw(0), tell()), [WITHDRAWN, 0, 0, 0, 0, 0, 4, 0])

    def test_it_is_not_under_way_any_more(self):
        calls = HOUSE + [withdraw(0), sign(0), refuse(0), may(0), withdraw(0)]
        self.assertEqual(told(*calls)[4:], [0, -3, -3, -3, -3])
        self.assertEqual(last_row(*HOUSE, withdraw(0), who()), [0])

    def test_whatever_step_and_round_it_is_in(self):
        calls = HOUSE + [sign(0), refuse(1), sign(1), sign(0), days(1), withdraw(0)]
        self.assertEqual(last_row(*calls, tell()), [WITHDRAWN, 0, 0, 1, 1, 0, 1, 4])
        self.assertEqual(last_row(*calls, acts())[0], 4)

    def test_it_is_no_act(self):
        self.assertEqual(last_row(*HOUSE, withdraw(0), acts()), [0])

    def test_the_writer_needs_no_role_and_no_leave_to_sign(self):
        calls = [person(0), person(1), procedure(step(writer_may_sign=0)), file(0)]
        self.assertEqual(told(*calls, sign(0), withdraw(0))[-2:], [-5, 0])

    def test_papers_and_people_there_are_not(self):
        for number in (LEAST, -2, -1, 2, 3, MOST):
            with self.subTest(number=number):
                calls = HOUSE + [file(0)]
                self.assertEqual(told(*calls, withdraw(number, 0), withdraw(0, number), withdraw(number, number))[-3:],
                                 [-2, -2, -2])

    def test_6_by_is_not_its_writer(self):
        self.assertEqual(last(*HOUSE, withdraw(1)), -6)
        self.assertEqual(last_row(*HOUSE, withdraw(1), tell())[0], 0)

    def test_6_nobody_withdraws_for_the_writer(self):
        self.assertEqual(last(*HOUSE, away(0, 1, 9), withdraw(1)), -6)

    def test_3_in_each_state_it_may_be_in(self):
        house = [person(1), person(1), procedure(step()), file(0)]
        for end in (sign(0), refuse(0), withdraw(0), days(12)):
            with self.subTest(end=end):
                self.assertEqual(last(*house, end, withdraw(0)), -3)

    def test_3_before_6(self):
        for end in (sign(0), refuse(0), withdraw(0), days(12)):
            with self.subTest(end=end):
                self.assertEqual(told(person(1), person(1), procedure(step()), file(0), withdraw(1), end, withdraw(1))[4::2],
                                 [-6, -3])

    def test_2_before_3_and_6(self):
        house = HOUSE + [withdraw(0)]
        self.assertEqual(told(*house, withdraw(2), withdraw(-1), withdraw(1, 1), withdraw(0, -1))[-4:], [-2] * 4)
        self.assertEqual(told(*HOUSE, withdraw(2), withdraw(1, 1))[-2:], [-2, -2])

    def test_other_papers_stay_as_they_are(self):
        calls = HOUSE + [file(0), file(1), withdraw(0, 1)]
        self.assertEqual([last_row(*calls, tell(number))[0] for number in range(3)], [0, WITHDRAWN, 0])
        self.assertEqual(told(*calls, withdraw(0, 2), withdraw(1, 2), withdraw(0, 0))[-3:], [-6, 0, 0])

    def test_there_has_been_a_paper_then_all_the_same(self):
        self.assertEqual(last(*HOUSE, withdraw(0), apart(0, 1)), -3)


if __name__ == "__main__":
    unittest.main()

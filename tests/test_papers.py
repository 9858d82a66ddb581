"""Points 4 and 7: file, sign, refuse, may."""

import unittest

from calls import (LEAST, MOST, acts, days, file, last, last_row, may, person, procedure, refuse, roles, sign, step, tell,
                   told, withdraw)

UNDER_WAY = 0
APPROVED = 1
REFUSED = 2


class TestFile(unittest.TestCase):
    def test_numbers_rise_from_0(self):
        self.assertEqual(told(person(0), person(0), procedure(step()), procedure(step()),
                              file(0, 0), file(1, 1), file(0, 1))[4:], [0, 1, 2])

    def test_writers_there_are_not(self):
        for writer in (LEAST, -1, 2, 3, MOST):
            with self.subTest(writer=writer):
                self.assertEqual(last(person(0), person(0), procedure(step()), file(writer)), -2)

    def test_procedures_there_are_not(self):
        for number in (LEAST, -1, 2, 3, MOST):
            with self.subTest(number=number):
                self.assertEqual(last(person(0), procedure(step()), procedure(step()), file(0, number)), -2)

    def test_256_papers_and_no_more(self):
        calls = [person(0), procedure(step())] + [file(0)] * 258
        self.assertEqual(told(*calls)[2:], list(range(256)) + [-8, -8])

    def test_wrong_numbers_come_before_a_full_drawer(self):
        calls = [person(0), procedure(step())] + [file(0)] * 256
        self.assertEqual(told(*calls, file(1), file(0, 1), file(-1, -1))[-3:], [-2, -2, -2])

    def test_papers_that_came_to_an_end_count_too(self):
        calls = [person(1), procedure(step())] + [file(0)] * 256
        self.assertEqual(told(*calls, sign(0, 255), refuse(0, 0), withdraw(0, 1), days(12), file(0))[-5:],
                         [APPROVED, REFUSED, 0, 12, -8])

    def test_it_goes_through_its_own_procedure(self):
        calls = [person(1), procedure(step(), step()), procedure(step()), file(0, 1), file(0, 0)]
        self.assertEqual(told(*calls, sign(0, 0), sign(0, 1), sign(0, 1))[5:], [APPROVED, UNDER_WAY, APPROVED])

    def test_papers_do_not_touch_one_another(self):
        calls = [person(1), person(1), procedure(step(signatures=2)), file(0), file(0), sign(0, 0), sign(0, 1)]
        self.assertEqual(told(*calls, sign(1, 1), sign(0, 0), sign(1, 0))[5:], [0, 0, 1, -7, 1])


class TestComing(unittest.TestCase):
    HOUSE = [person(1), person(1), procedure(step(days=30), step(days=7, back=0), step(days=1, back=1)), days(30), days(20)]

    def place(self, *calls):
        """The step, the round, the level and the day it is due."""
        return last_row(*self.HOUSE, *calls, tell())[3:7]

    def test_a_new_office_is_on_day_0(self):
        self.assertEqual(told(days(1)), [1])
        self.assertEqual(last_row(person(1), procedure(step(days=9)), file(0), tell())[6], 9)

    def test_filed_it_is_at_step_0_in_round_0(self):
        self.assertEqual(self.place(file(0)), [0, 0, 0, 80])

    def test_signed_it_comes_to_the_next_step_in_the_same_round(self):
        self.assertEqual(self.place(file(0), days(20), sign(0)), [1, 0, 0, 77])

    def test_refused_it_comes_to_the_step_told_in_the_next_round(self):
        self.assertEqual(self.place(file(0), sign(0), sign(0), days(1), refuse(0)), [1, 1, 0, 58])

    def test_a_signature_that_is_not_the_last_moves_nothing(self):
        calls = [procedure(step(signatures=2, days=3)), file(0, 1), days(2)]
        self.assertEqual(self.place(*calls), [0, 0, 0, 53])
        self.assertEqual(self.place(*calls, sign(0)), [0, 0, 0, 53])

    def test_acts_are_noted_in_order(self):
        self.assertEqual(last_row(*self.HOUSE, file(0), sign(0), refuse(1), sign(0), acts()),
                         [3, 0, 0, 0, 0, 1, 1, 0, 1, 1, 0, 0, 1, 0, 0, 1])


class TestSign(unittest.TestCase):
    def test_as_many_signatures_as_the_step_wants(self):
        for wanted in (1, 2, 3):
            calls = [person(1)] * 4 + [procedure(step(signatures=wanted)), file(3)]
            with self.subTest(wanted=wanted):
                self.assertEqual(told(*calls, sign(0), sign(1), sign(2))[6:],
                                 ([0] * (wanted - 1) + [APPROVED] + [-3] * 3)[:3])

    def test_each_step_wants_its_own(self):
        calls = [person(1), person(1), person(2), procedure(step(0, 2), step(1), step(0, 2)), file(2)]
        self.assertEqual(told(*calls, sign(0), sign(2), sign(1), sign(1), sign(2), sign(2), sign(1), sign(0))[5:],
                         [0, -5, 0, -5, 0, -5, 0, APPROVED])

    def test_signatures_of_an_earlier_round_do_not_count(self):
        calls = [person(1), person(1), procedure(step(signatures=2, back=0)), file(0)]
        self.assertEqual(told(*calls, sign(0), refuse(1), sign(0), sign(1))[4:], [0, 0, 0, APPROVED])

    def test_one_person_may_sign_step_after_step(self):
        calls = [person(7), procedure(step(0), step(1), step(2), step(1)), file(0)]
        self.assertEqual(told(*calls, *[sign(0)] * 4)[3:], [0, 0, 0, APPROVED])


class TestRefuse(unittest.TestCase):
    def test_back_to_nowhere_it_is_refused(self):
        calls = [person(1), procedure(step(), step()), file(0), sign(0), refuse(0), sign(0), refuse(0), may(0)]
        self.assertEqual(told(*calls)[3:], [0, REFUSED, -3, -3, -3])

    def test_back_to_itself(self):
        calls = [person(1), person(2), procedure(step(0), step(1, back=1)), file(0), sign(0), refuse(1)]
        self.assertEqual(told(*calls, sign(0), sign(1))[4:], [0, 0, -5, APPROVED])

    def test_back_to_an_earlier_step(self):
        steps = [step(0), step(1), step(2, back=1), step(3, back=0)]
        calls = [person(1), person(2), person(4), person(8), procedure(*steps), file(0), sign(0), sign(1)]
        self.assertEqual(told(*calls, refuse(2), may(0), sign(1), sign(2), refuse(3), may(1),
                              sign(0), sign(1), sign(2), sign(3))[8:],
                         [0, -5, 0, 0, 0, -5, 0, 0, 0, APPROVED])

    def test_in_round_10_it_is_refused_for_good(self):
        calls = [person(1), procedure(step(back=0)), file(0)] + [refuse(0)] * 12
        self.assertEqual(told(*calls)[3:], [0] * 10 + [REFUSED, -3])

    def test_in_round_10_it_may_still_be_signed(self):
        calls = [person(1), procedure(step(back=0), step(back=0)), file(0)] + [refuse(0)] * 10
        self.assertEqual(told(*calls, sign(0), sign(0))[-3:], [0, 0, APPROVED])
        self.assertEqual(told(*calls, sign(0), refuse(0), sign(0))[-3:], [0, REFUSED, -3])

    def test_rounds_go_on_whatever_step_refuses(self):
        there_and_back = [sign(0), refuse(0)] * 5 + [refuse(0)] * 5
        calls = [person(1), procedure(step(back=0), step(back=0)), file(0)] + there_and_back
        self.assertEqual(told(*calls, refuse(0), may(0))[-4:], [0, 0, REFUSED, -3])

    def test_one_refusal_is_enough(self):
        calls = [person(1)] * 3 + [procedure(step(signatures=3)), file(0), sign(0), sign(1), refuse(2)]
        self.assertEqual(told(*calls)[5:], [0, 0, REFUSED])


class TestMay(unittest.TestCase):
    def test_it_does_nothing(self):
        calls = [person(1), procedure(step()), file(0), may(0), may(0), sign(0), may(0)]
        self.assertEqual(told(*calls)[3:], [0, 0, APPROVED, -3])

    def test_it_answers_what_sign_and_refuse_would(self):
        calls = [person(1), person(2), procedure(step(signatures=2), step(1, writer_may_sign=0)), file(1)]
        for more in ([], [sign(0)], [sign(0), roles(1, 3), sign(1)], [refuse(0)]):
            for by in (0, 1, 2):
                for behalf in (0, 1, 2):
                    for paper in (0, 1):
                        before = calls + more
                        answer = last(*before, may(by, paper, behalf))
                        with self.subTest(more=more, by=by, behalf=behalf, paper=paper):
                            self.assertIn(answer, (0, -2, -3, -4, -5, -6, -7))
                            for act in (sign, refuse):
                                done = last(*before, act(by, paper, behalf))
                                self.assertEqual(min(done, 0), answer)


class TestWrongNumbers(unittest.TestCase):
    def test_people_and_papers_there_are_not(self):
        calls = [person(1), person(1), procedure(step()), file(0), file(0)]
        for act in (6, 7, 8):
            for number in (LEAST, -2, -1, 2, 3, MOST):
                with self.subTest(act=act, number=number):
                    self.assertEqual(last(*calls, [act, number, 0, 0]), -2)
                    self.assertEqual(last(*calls, [act, 0, number, 0]), -2)
                    self.assertEqual(last(*calls, [act, 0, 0, number]), -2)
                    self.assertEqual(last(*calls, [act, number, number, number]), -2)

    def test_they_come_before_all_else(self):
        calls = [person(1), person(0), procedure(step()), file(0), refuse(0)]
        for act in (6, 7, 8):
            with self.subTest(act=act):
                self.assertEqual(last(*calls, [act, 0, 0, 0]), -3)
                self.assertEqual(last(*calls, [act, 2, 0, 0]), -2)
                self.assertEqual(last(*calls, [act, 0, 2, 0]), -2)
                self.assertEqual(last(*calls, [act, 1, 0, 1]), -2)


if __name__ == "__main__":
    unittest.main()

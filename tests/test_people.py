"""Points 1 and 2: person, roles, apart."""

import unittest

from calls import LEAST, MOST, apart, file, last, may, person, procedure, roles, sign, step, told

FULL_HOUSE = [person(0)] * 32


class TestPerson(unittest.TestCase):
    def test_numbers_rise_from_0(self):
        self.assertEqual(told(person(0), person(1), person(2)), [0, 1, 2])

    def test_roles_that_may_be(self):
        for held in (0, 1, 32768, 65534, 65535):
            with self.subTest(held=held):
                self.assertEqual(told(person(held)), [0])

    def test_roles_that_may_not_be(self):
        for held in (LEAST, -2, -1, 65536, 65537, MOST):
            with self.subTest(held=held):
                self.assertEqual(told(person(held), person(0)), [-2, 0])

    def test_chiefs_that_may_be(self):
        self.assertEqual(told(person(0, -1), person(0, 0), person(0, 1), person(0, 0), person(0, -1)), [0, 1, 2, 3, 4])

    def test_chiefs_that_may_not_be(self):
        for chief in (LEAST, -3, -2, 2, 3, 31, 32, MOST):
            with self.subTest(chief=chief):
                self.assertEqual(told(person(0), person(0), person(0, chief), person(0)), [0, 1, -2, 2])

    def test_nobody_is_their_own_chief(self):
        self.assertEqual(told(person(0, 0), person(0), person(0, 1)), [-2, 0, -2])

    def test_32_people_and_no_more(self):
        self.assertEqual(told(*FULL_HOUSE, person(0), person(65535, 31)), list(range(32)) + [-8, -8])

    def test_wrong_numbers_come_before_a_full_house(self):
        self.assertEqual(told(*FULL_HOUSE, person(65536), person(-1), person(0, 32), person(0, -2))[32:], [-2] * 4)

    def test_each_bit_is_the_role_of_its_number(self):
        for role in range(16):
            with self.subTest(role=role):
                calls = [person(1 << role), person(65535 - (1 << role)), procedure(step(role)), file(0)]
                self.assertEqual(told(*calls, may(0), may(1))[4:], [0, -5])


class TestRoles(unittest.TestCase):
    def test_roles_that_may_be(self):
        self.assertEqual(told(person(5), roles(0, 0), roles(0, 65535), roles(0, 65535)), [0, 0, 0, 0])

    def test_roles_that_may_not_be(self):
        for held in (LEAST, -1, 65536, MOST):
            with self.subTest(held=held):
                self.assertEqual(told(person(0), roles(0, held)), [0, -2])

    def test_people_there_are_not(self):
        for number in (LEAST, -1, 2, 3, MOST):
            with self.subTest(number=number):
                self.assertEqual(told(person(0), person(0), roles(number, 0)), [0, 1, -2])

    def test_both_numbers_wrong(self):
        self.assertEqual(told(roles(0, -1)), [-2])

    def test_they_have_these_from_now_on_and_only_these(self):
        calls = [person(1), person(1), procedure(step(0, 3), step(1)), file(0)]
        self.assertEqual(told(*calls, may(0), roles(0, 2), may(0), may(1), roles(0, 3), may(0))[4:], [0, 0, -5, 0, 0, 0])

    def test_roles_may_change_in_a_full_house(self):
        self.assertEqual(last(*FULL_HOUSE, roles(31, 65535)), 0)


class TestApart(unittest.TestCase):
    def second_act(self, *kept_apart):
        """What someone is told at a step of role 2 who signed at one of role 1."""
        return last(person(65535), *kept_apart, procedure(step(1), step(2)), file(0), sign(0), sign(0))

    def test_roles_that_may_be(self):
        for role in range(16):
            with self.subTest(role=role):
                self.assertEqual(told(apart(role, 0), apart(15, role), apart(role, role)), [0, 0, 0])

    def test_roles_that_may_not_be(self):
        for role in (LEAST, -1, 16, 17, MOST):
            with self.subTest(role=role):
                self.assertEqual(told(apart(role, 0), apart(0, role), apart(role, role)), [-2, -2, -2])

    def test_the_order_of_the_two_does_not_count(self):
        self.assertEqual(self.second_act(), 1)
        self.assertEqual(self.second_act(apart(1, 2)), -9)
        self.assertEqual(self.second_act(apart(2, 1)), -9)

    def test_to_say_it_again_changes_nothing(self):
        self.assertEqual(self.second_act(apart(1, 2), apart(1, 2), apart(2, 1)), -9)

    def test_only_those_two_are_kept_apart(self):
        self.assertEqual(self.second_act(apart(1, 1), apart(2, 2), apart(0, 1), apart(2, 3), apart(3, 1)), 1)

    def test_many_pairs_are_kept_apart_at_once(self):
        self.assertEqual(self.second_act(apart(0, 1), apart(1, 2), apart(2, 3)), -9)

    def test_not_once_there_has_been_a_paper(self):
        calls = [person(3), procedure(step(0), step(1)), apart(2, 3), file(0), apart(0, 1), sign(0), sign(0), apart(0, 1)]
        self.assertEqual(told(*calls)[2:], [0, 0, -3, 0, 1, -3])

    def test_a_paper_that_was_not_taken_is_none(self):
        self.assertEqual(told(person(0), procedure(step()), file(1), file(0, 1), apart(0, 1)), [0, 0, -2, -2, 0])

    def test_wrong_numbers_come_before_a_paper(self):
        calls = [person(0), procedure(step()), file(0)]
        self.assertEqual(told(*calls, apart(16, 0), apart(0, 16), apart(-1, 0), apart(0, -1))[3:], [-2] * 4)


if __name__ == "__main__":
    unittest.main()

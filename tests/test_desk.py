"""The interface: how calls stand in the list, and how answers come back."""

import unittest

from calls import apart, file, flat, may, person, procedure, refuse, roles, sign, step, told
from paperoffice.desk import answers

ONE_OF_EACH = [
    person(3), person(1, 0), roles(1, 2), apart(0, 15),
    procedure(step(0, back=0), step(1)), file(1), may(0), refuse(0), sign(0), sign(1),
]
ANSWERS_TO_EACH = [0, 1, 0, 0, 0, 0, 0, 0, 0, 1]


class TestForm(unittest.TestCase):
    def test_no_call_no_answer(self):
        self.assertEqual(answers([]), [])

    def test_every_call_as_the_interface_writes_it(self):
        calls = [
            1, 3, -1,
            1, 1, 0,
            2, 1, 2,
            3, 0, 15,
            4, 10, 0, 1, 1, 1, 0, 1, 1, 1, 1, -1,
            5, 1, 0,
            8, 0, 0, 0,
            7, 0, 0, 0,
            6, 0, 0, 0,
            6, 1, 1, 0,
        ]
        self.assertEqual(answers(calls), [1, 0, 1, 1, 1, 0, 1, 0, 1, 0, 1, 0, 1, 0, 1, 0, 1, 0, 1, 1])
        self.assertEqual(flat(ONE_OF_EACH), calls)

    def test_a_refusal_is_its_number_alone(self):
        self.assertEqual(answers([1, -1, -1, 2, 0, 0, 3, 16, 0, 5, 0, 0, 6, 0, 0, 0, 7, 0, 0, 0, 8, 0, 0, 0]), [1, -2] * 7)

    def test_a_call_behind_a_procedure_is_read_from_its_own_place(self):
        for count in range(0, 81):
            with self.subTest(count=count):
                self.assertEqual(answers([4, count] + [1] * count + [1, 0, -1])[2:], [1, 0])

    def test_the_answer_is_a_new_list_of_plain_whole_numbers(self):
        answered = answers(flat(ONE_OF_EACH))
        self.assertIs(type(answered), list)
        self.assertEqual({type(number) for number in answered}, {int})

    def test_350_calls(self):
        calls = [person(0)] * 32 + [apart(0, 0)] * 318
        self.assertEqual(told(*calls), list(range(32)) + [0] * 318)


class TestNothingKept(unittest.TestCase):
    def test_a_second_time_answers_the_same(self):
        calls = flat(ONE_OF_EACH)
        first = answers(calls)
        self.assertEqual(answers(calls), first)
        self.assertEqual(first[1::2], ANSWERS_TO_EACH)

    def test_a_new_office_is_empty(self):
        answers(flat(ONE_OF_EACH))
        self.assertEqual(told(roles(0, 0), file(0), sign(0), person(0, 0), person(0), procedure(step())),
                         [-2, -2, -2, -2, 0, 0])

    def test_roles_kept_apart_are_forgotten(self):
        two_steps = [person(3), procedure(step(0), step(1)), file(0), sign(0), sign(0)]
        self.assertEqual(told(apart(0, 1), *two_steps)[-1], -9)
        self.assertEqual(told(*two_steps)[-1], 1)

    def test_changing_an_answer_changes_no_later_one(self):
        first = answers([1, 0, -1])
        first.append(7)
        self.assertEqual(answers([1, 0, -1]), [1, 0])
        nothing = answers([])
        nothing.append(7)
        self.assertEqual(answers([]), [])


class Watched(list):
    """A list that tells when somebody tries to change it, even for a while."""

    def refuse_change(self, *given):
        raise AssertionError("the list that was handed in was changed")

    append = extend = insert = pop = remove = clear = sort = reverse = refuse_change
    __setitem__ = __delitem__ = __iadd__ = __imul__ = refuse_change


class TestHandedIn(unittest.TestCase):
    def test_the_list_stays_as_it_was(self):
        calls = flat(ONE_OF_EACH + [person(-1), procedure(), sign(9)])
        before = list(calls)
        answers(calls)
        self.assertEqual(calls, before)

    def test_the_list_is_not_changed_for_a_while_either(self):
        self.assertEqual(answers(Watched(flat(ONE_OF_EACH)))[1::2], ANSWERS_TO_EACH)


if __name__ == "__main__":
    unittest.main()

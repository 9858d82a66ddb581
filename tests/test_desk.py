"""The interface: how calls stand in the list, and how answers come back."""

import unittest

from calls import (acts, apart, away, back, days, file, flat, last_row, may, person, procedure, refuse, roles, rows,
                   rows_of, sign, step, tell, told, waiting, who, withdraw)
from paperoffice.desk import answers

ONE_OF_EACH = [
    person(3), person(1, 0), roles(1, 2), apart(0, 15),
    procedure(step(0, back=0), step(1)), file(1), may(0), refuse(0), sign(0), away(1, 0, 9), days(1), back(1), who(),
    sign(1), file(0), waiting(0), withdraw(0, 1), tell(0), acts(0),
]
ANSWERS_TO_EACH = [
    [0], [1], [0], [0], [0], [0], [0], [0], [0], [0], [1], [0], [2, 0, 1], [1], [1], [1, 1], [0],
    [1, 0, 1, 1, 1, 0, 1, 3], [3, 0, 0, 0, 0, 0, 0, 1, 0, 0, 1, 1, 1, 1, 1, 1],
]


class TestForm(unittest.TestCase):
    def test_no_call_no_answer(self):
        self.assertEqual(answers([]), [])

    def test_every_call_as_the_interface_writes_it(self):
        calls = [
            1, 3, -1,
            1, 1, 0,
            2, 1, 2,
            3, 0, 15,
            4, 10, 0, 1, 1, 1, 0, 1, 1, 1, 1, -1,
            5, 1, 0,
            8, 0, 0, 0,
            7, 0, 0, 0,
            6, 0, 0, 0,
            10, 1, 0, 9,
            12, 1,
            11, 1,
            15, 0,
            6, 1, 1, 0,
            5, 0, 0,
            16, 0,
            9, 0, 1,
            13, 0,
            14, 0,
        ]
        self.assertEqual(answers(calls), [
            1, 0, 1, 1, 1, 0, 1, 0, 1, 0, 1, 0, 1, 0, 1, 0, 1, 0, 1, 0, 1, 1, 1, 0, 3, 2, 0, 1, 1, 1, 1, 1, 2, 1, 1, 1, 0,
            8, 1, 0, 1, 1, 1, 0, 1, 3,
            16, 3, 0, 0, 0, 0, 0, 0, 1, 0, 0, 1, 1, 1, 1, 1, 1,
        ])
        self.assertEqual(flat(ONE_OF_EACH), calls)
        self.assertEqual(sorted({call[0] for call in ONE_OF_EACH}), list(range(1, 17)))

    def test_an_answer_of_several_numbers_has_its_count_ahead_of_it(self):
        calls = flat([person(1), procedure(step(signatures=2)), file(0)])
        self.assertEqual(answers(calls + [13, 0])[6:], [8, 0, 0, 0, 0, 0, 0, 1, 0])
        self.assertEqual(answers(calls + [14, 0])[6:], [1, 0])
        self.assertEqual(answers(calls + [15, 0])[6:], [2, 1, 0])
        self.assertEqual(answers(calls + [16, 0])[6:], [2, 1, 0])
        self.assertEqual(answers(calls + [6, 0, 0, 0, 14, 0])[8:], [6, 1, 0, 0, 0, 0, 1])
        self.assertEqual(answers(calls + [6, 0, 0, 0, 15, 0, 16, 0])[8:], [1, 0, 1, 0])

    def test_a_refusal_is_its_number_alone(self):
        self.assertEqual(answers([1, -1, -1, 2, 0, 0, 3, 16, 0, 5, 0, 0, 6, 0, 0, 0, 7, 0, 0, 0, 8, 0, 0, 0]), [1, -2] * 7)
        self.assertEqual(answers([4, 0, 9, 0, 0, 10, 0, 1, 0, 11, 0, 12, 0, 13, 0, 14, 0, 15, 0, 16, 0]), [1, -2] * 9)

    def test_a_call_behind_a_procedure_is_read_from_its_own_place(self):
        for count in range(0, 81):
            with self.subTest(count=count):
                self.assertEqual(answers([4, count] + [1] * count + [1, 0, -1])[2:], [1, 0])

    def test_a_call_behind_any_other_is_read_from_its_own_place(self):
        for call in ONE_OF_EACH:
            with self.subTest(call=call):
                self.assertEqual(rows(call, apart(0, 15), apart(0, 16))[1:], [[0], [-2]])

    def test_the_answer_is_a_new_list_of_plain_whole_numbers(self):
        answered = answers(flat(ONE_OF_EACH))
        self.assertIs(type(answered), list)
        self.assertEqual({type(number) for number in answered}, {int})

    def test_350_calls(self):
        calls = [person(0)] * 32 + [apart(0, 0)] * 318
        self.assertEqual(told(*calls), list(range(32)) + [0] * 318)

    def test_350_of_the_longest_calls(self):
        longest = procedure(*[step()] * 16)
        self.assertEqual(told(*[longest] * 350), list(range(16)) + [-8] * 334)

    def test_350_calls_of_both_halves_mixed(self):
        house = [person(1), person(1), person(0), procedure(step(signatures=2, days=2, back=0))]
        turn = [file(2), who(0), away(0, 2, 1000), sign(2, 0, 0), refuse(1, 0), waiting(1), tell(0), days(1)]
        calls = house + turn * 43 + [acts(0), waiting(0)]
        answered = rows(*calls)
        self.assertEqual(len(calls), 350)
        self.assertEqual([row[0] for row in answered[4:-2:8]], list(range(43)))
        self.assertEqual([row[0] for row in answered[11:-2:8]], list(range(1, 44)))
        # In each turn it is signed for 0 and refused by 1, until it is refused in round 10.
        self.assertEqual(answered[5:-2:8], [[2, 0, 1]] * 11 + [[0]] * 32)
        self.assertEqual([row[0] for row in answered[7:-2:8]], [0] * 11 + [-3] * 32)
        self.assertEqual([row[0] for row in answered[8:-2:8]], [0] * 10 + [2] + [-3] * 32)
        self.assertEqual([row[4] for row in answered[10:-2:8]], list(range(1, 11)) + [10] * 33)
        self.assertEqual(answered[-2][:6], [22, 0, 0, 2, 0, 1])
        # Filed on day d, a paper lapses on day d + 18: on day 43 those of the days 26 to 42 are under way.
        self.assertEqual(answered[-1], [17] + list(range(26, 43)))


class TestNothingKept(unittest.TestCase):
    def test_a_second_time_answers_the_same(self):
        calls = flat(ONE_OF_EACH)
        first = answers(calls)
        self.assertEqual(answers(calls), first)
        self.assertEqual(rows_of(first), ANSWERS_TO_EACH)

    def test_a_new_office_is_empty(self):
        answers(flat(ONE_OF_EACH))
        self.assertEqual(told(roles(0, 0), file(0), sign(0), person(0, 0), person(0), procedure(step())),
                         [-2, -2, -2, -2, 0, 0])

    def test_roles_kept_apart_are_forgotten(self):
        two_steps = [person(3), procedure(step(0), step(1)), file(0), sign(0), sign(0)]
        self.assertEqual(told(apart(0, 1), *two_steps)[-1], -9)
        self.assertEqual(told(*two_steps)[-1], 1)

    def test_the_day_and_who_is_away_are_forgotten(self):
        house = [person(1), person(0), procedure(step(days=3)), file(0)]
        self.assertEqual(told(*house, away(0, 1, 9), days(2), may(1, behalf=0))[-2:], [2, 0])
        self.assertEqual(told(*house, may(1, behalf=0), days(1))[-2:], [-4, 1])
        self.assertEqual(last_row(*house, tell()), [0, 0, 0, 0, 0, 0, 3, 0])
        self.assertEqual(last_row(*house, acts()), [0])

    def test_changing_an_answer_changes_no_later_one(self):
        first = answers([1, 0, -1])
        first.append(7)
        self.assertEqual(answers([1, 0, -1]), [1, 0])
        nothing = answers([])
        nothing.append(7)
        self.assertEqual(answers([]), [])


class Watched(list):
    """A list that tells when somebody tries to change it, even for a while."""

    def refuse_change(self, *given):
        raise AssertionError("the list that was handed in was changed")

    append = extend = insert = pop = remove = clear = sort = reverse = refuse_change
    __setitem__ = __delitem__ = __iadd__ = __imul__ = refuse_change


class TestHandedIn(unittest.TestCase):
    def test_the_list_stays_as_it_was(self):
        calls = flat(ONE_OF_EACH + [person(-1), procedure(), sign(9), away(0, 0, 0), days(0), tell(9)])
        before = list(calls)
        answers(calls)
        self.assertEqual(calls, before)

    def test_the_list_is_not_changed_for_a_while_either(self):
        self.assertEqual(rows_of(answers(Watched(flat(ONE_OF_EACH)))), ANSWERS_TO_EACH)


if __name__ == "__main__":
    unittest.main()

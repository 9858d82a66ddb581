"""Point 3: procedure."""

import unittest

from calls import LEAST, MOST, file, person, procedure, sign, step, told

FULL_SHELF = [procedure(step())] * 16


class TestProcedure(unittest.TestCase):
    def test_numbers_rise_from_0(self):
        self.assertEqual(told(procedure(step()), procedure(step(), step()), procedure(step())), [0, 1, 2])

    def test_16_procedures_and_no_more(self):
        self.assertEqual(told(*FULL_SHELF, procedure(step()), procedure(step(15))), list(range(16)) + [-8, -8])

    def test_wrong_numbers_come_before_a_full_shelf(self):
        wrong = [procedure(), procedure(step(16)), procedure(step(), step(back=2)), [4, 4, 0, 1, 1, 1]]
        self.assertEqual(told(*FULL_SHELF, *wrong)[16:], [-2] * 4)

    def test_1_to_16_steps(self):
        for count in range(1, 17):
            with self.subTest(count=count):
                self.assertEqual(told(procedure(*[step()] * count)), [0])

    def test_every_step_is_gone_through(self):
        for count in (1, 2, 15, 16):
            with self.subTest(count=count):
                calls = [person(1), procedure(*[step()] * count), file(0)] + [sign(0)] * (count + 1)
                self.assertEqual(told(*calls)[3:], [0] * (count - 1) + [1, -3])

    def test_no_steps_or_too_many(self):
        self.assertEqual(told(procedure(), procedure(*[step()] * 17)), [-2, -2])

    def test_only_five_numbers_for_each_step(self):
        numbers = [0, 1, 1, 1, -1] * 16
        for count in range(0, 81):
            with self.subTest(count=count):
                wanted = 0 if count > 0 and count % 5 == 0 else -2
                self.assertEqual(told([4, count] + numbers[:count]), [wanted])

    def check(self, place, good, bad):
        """Each good number may stand at this place of any step, no bad one may."""
        for number, answer in [(each, 0) for each in good] + [(each, -2) for each in bad]:
            changed = step()
            changed[place] = number
            with self.subTest(number=number):
                self.assertEqual(told(procedure(changed)), [answer])
                self.assertEqual(told(procedure(changed, step(), step())), [answer])
                self.assertEqual(told(procedure(step(), step(), changed)), [answer])

    def test_role(self):
        self.check(0, range(16), (LEAST, -2, -1, 16, 17, MOST))

    def test_how_many_signatures(self):
        self.check(1, (1, 2, 3), (LEAST, -1, 0, 4, 5, MOST))

    def test_how_many_days(self):
        self.check(2, range(1, 31), (LEAST, -1, 0, 31, 32, MOST))

    def test_whether_the_writer_may_sign(self):
        self.check(3, (0, 1), (LEAST, -2, -1, 2, 3, MOST))

    def test_where_it_goes_back_to(self):
        self.check(4, (-1, 0), (LEAST, -3, -2, 3, 16, MOST))

    def test_it_goes_back_to_itself_or_an_earlier_step_alone(self):
        for number in range(16):
            for back in range(-3, 18):
                steps = [step() for each in range(16)]
                steps[number] = step(back=back)
                with self.subTest(number=number, back=back):
                    self.assertEqual(told(procedure(*steps)), [0 if -1 <= back <= number else -2])

    def test_a_wrong_procedure_takes_no_number(self):
        self.assertEqual(told(procedure(step(16)), procedure(), procedure(step())), [-2, -2, 0])


if __name__ == "__main__":
    unittest.main()

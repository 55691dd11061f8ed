import unittest
from fractions import Fraction

from greenturns.parts import less, minus, over, plus, times
from tests.helper import check_form, part

LONG_ONE = (123456789012345678901, 987654321098765432100)
LONG_OTHER = (-10000000000000000000000000000001, 30000000000000000000000000000000)


def small_parts():
    values = sorted({Fraction(top, bottom) for top in range(-7, 8) for bottom in range(1, 7)})
    return [part(value) for value in values]


def long_parts():
    values = [
        Fraction(*LONG_ONE),
        Fraction(*LONG_OTHER),
        Fraction(10 ** 25 + 1, 10 ** 24 + 7),
        Fraction(-(10 ** 25 + 1), 10 ** 24 + 7),
        Fraction(10 ** 40),
        Fraction(-1, 10 ** 40),
        Fraction(2 ** 200 * 3 ** 50, 5 ** 90),
        Fraction(5 ** 90, 2 ** 200 * 3 ** 49),
        Fraction(0),
        Fraction(1),
        Fraction(-2, 3),
    ]
    return [part(value) for value in values]


class TestParts(unittest.TestCase):
    def check_pair(self, one, other):
        left = Fraction(*one)
        right = Fraction(*other)
        self.assertEqual(plus(one, other), part(left + right), (one, other))
        self.assertEqual(minus(one, other), part(left - right), (one, other))
        self.assertEqual(times(one, other), part(left * right), (one, other))
        self.assertIs(less(one, other), left < right, (one, other))
        answers = [plus(one, other), minus(one, other), times(one, other)]
        if right != 0:
            self.assertEqual(over(one, other), part(left / right), (one, other))
            answers.append(over(one, other))
        for answer in answers:
            check_form(self, answer)

    def test_plus(self):
        self.assertEqual(plus((1, 2), (1, 3)), (5, 6))
        self.assertEqual(plus((1, 6), (1, 3)), (1, 2))
        self.assertEqual(plus((1, 2), (1, 2)), (1, 1))
        self.assertEqual(plus((1, 2), (-1, 2)), (0, 1))
        self.assertEqual(plus((-1, 2), (-1, 6)), (-2, 3))
        self.assertEqual(plus((0, 1), (0, 1)), (0, 1))

    def test_minus(self):
        self.assertEqual(minus((1, 2), (1, 3)), (1, 6))
        self.assertEqual(minus((1, 3), (1, 2)), (-1, 6))
        self.assertEqual(minus((5, 6), (1, 3)), (1, 2))
        self.assertEqual(minus((5, 7), (5, 7)), (0, 1))
        self.assertEqual(minus((0, 1), (5, 7)), (-5, 7))
        self.assertEqual(minus((-1, 2), (-1, 2)), (0, 1))

    def test_times(self):
        self.assertEqual(times((2, 3), (3, 4)), (1, 2))
        self.assertEqual(times((-2, 3), (3, 2)), (-1, 1))
        self.assertEqual(times((-2, 3), (-3, 4)), (1, 2))
        self.assertEqual(times((0, 1), (-3, 4)), (0, 1))
        self.assertEqual(times((-3, 4), (0, 1)), (0, 1))

    def test_over(self):
        self.assertEqual(over((2, 3), (4, 3)), (1, 2))
        self.assertEqual(over((4, 3), (2, 3)), (2, 1))
        self.assertEqual(over((2, 3), (-4, 3)), (-1, 2))
        self.assertEqual(over((-2, 3), (4, 3)), (-1, 2))
        self.assertEqual(over((-2, 3), (-4, 3)), (1, 2))
        self.assertEqual(over((0, 1), (-4, 3)), (0, 1))

    def test_less(self):
        self.assertIs(less((1, 3), (1, 2)), True)
        self.assertIs(less((1, 2), (1, 3)), False)
        self.assertIs(less((1, 2), (1, 2)), False)
        self.assertIs(less((-1, 2), (-1, 3)), True)
        self.assertIs(less((-1, 3), (-1, 2)), False)
        self.assertIs(less((-1, 2), (0, 1)), True)
        self.assertIs(less((0, 1), (-1, 2)), False)
        self.assertIs(less((0, 1), (0, 1)), False)

    def test_small_fractions_each_with_each(self):
        for one in small_parts():
            for other in small_parts():
                self.check_pair(one, other)

    def test_long_fractions_each_with_each(self):
        for one in long_parts():
            for other in long_parts():
                self.check_pair(one, other)

    def test_long_fractions_with_small_ones(self):
        for one in long_parts():
            for other in small_parts():
                self.check_pair(one, other)
                self.check_pair(other, one)

    def test_written_long_answers(self):
        self.assertEqual(
            plus((100000000000000000001, 3), (200000000000000000002, 3)),
            (100000000000000000001, 1),
        )
        self.assertEqual(
            minus((1, 100000000000000000000), (1, 50000000000000000000)),
            (-1, 100000000000000000000),
        )
        self.assertEqual(
            times((100000000000000000000, 3), (3, 200000000000000000000)),
            (1, 2),
        )
        self.assertEqual(
            over((1, 100000000000000000000), (-1, 300000000000000000000)),
            (-3, 1),
        )

    def test_long_fractions_that_differ_by_the_last_figure(self):
        one = (10 ** 30, 10 ** 30 + 1)
        other = (10 ** 30 + 1, 10 ** 30 + 2)
        self.assertIs(less(one, other), True)
        self.assertIs(less(other, one), False)

    def test_thousands_of_figures(self):
        one = (10 ** 6000 + 1, 10 ** 6000)
        self.assertTrue(minus(one, (1, 1)) == (1, 10 ** 6000))
        self.assertTrue(over(one, one) == (1, 1))
        self.assertIs(less((1, 1), one), True)


if __name__ == "__main__":
    unittest.main()

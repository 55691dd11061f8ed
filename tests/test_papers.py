import unittest
from fractions import Fraction
from itertools import product

from greenturns.crossing import Crossing
from greenturns.papers import bound, is_paper
from tests.helper import RING, all_clash_lists, all_groups, all_pairs, check_form, part

HALF = (1, 2)
NOUGHT = (0, 1)
ONE = (1, 1)
LITTLE_MORE = (10 ** 30 + 1, 2 * 10 ** 30)
LONG = 12345678901234567890


def expected_paper(streams, clashes, weights):
    return all(
        sum(Fraction(*weights[stream]) for stream in group) <= 1
        for group in all_groups(streams, clashes)
    )


class TestIsPaper(unittest.TestCase):
    def test_weights_of_nought(self):
        for streams in range(1, 7):
            self.assertIs(is_paper(Crossing(streams, []), [NOUGHT] * streams), True)

    def test_one_stream(self):
        crossing = Crossing(1, [])
        self.assertIs(is_paper(crossing, [ONE]), True)
        self.assertIs(is_paper(crossing, [(10 ** 30 + 1, 10 ** 30)]), False)

    def test_all_clashes(self):
        for streams in range(1, 7):
            crossing = Crossing(streams, all_pairs(streams))
            self.assertIs(is_paper(crossing, [ONE] * streams), True)
            for stream in range(streams):
                weights = [ONE] * streams
                weights[stream] = (10 ** 30 + 1, 10 ** 30)
                self.assertIs(is_paper(crossing, weights), False)

    def test_all_together_make_just_one(self):
        crossing = Crossing(4, [])
        weights = [(1, 2), (1, 4), (1, 6), (1, 12)]
        self.assertIs(is_paper(crossing, weights), True)
        for stream in range(4):
            more = list(weights)
            more[stream] = part(Fraction(*weights[stream]) + Fraction(1, 10 ** 30))
            self.assertIs(is_paper(crossing, more), False)

    def test_a_ring_of_five(self):
        self.assertIs(is_paper(Crossing(5, RING), [HALF] * 5), True)
        self.assertIs(is_paper(Crossing(6, RING), [HALF] * 5 + [NOUGHT]), True)
        self.assertIs(is_paper(Crossing(6, RING), [HALF] * 5 + [(1, 10 ** 30)]), False)
        for stream in range(5):
            weights = [HALF] * 5
            weights[stream] = LITTLE_MORE
            self.assertIs(is_paper(Crossing(5, RING), weights), False)

    def test_weights_too_heavy_in_one_group_alone(self):
        crossing = Crossing(4, [(0, 1), (2, 3)])
        for pair in [(0, 2), (0, 3), (1, 2), (1, 3)]:
            weights = [HALF] * 4
            weights[pair[0]] = (2, 5)
            weights[pair[1]] = (7, 10)
            self.assertIs(is_paper(crossing, weights), False)

    def test_all_crossings_of_up_to_three_streams(self):
        weights = [NOUGHT, (1, 3), HALF, (2, 3), ONE, (4, 3)]
        for streams in range(1, 4):
            for clashes in all_clash_lists(streams):
                crossing = Crossing(streams, clashes)
                for chosen in product(weights, repeat=streams):
                    expected = expected_paper(streams, clashes, chosen)
                    self.assertIs(is_paper(crossing, list(chosen)), expected, (clashes, chosen))

    def test_crossings_of_more_streams(self):
        for streams in range(4, 7):
            for number, clashes in enumerate(all_clash_lists(streams)):
                if number % 1597 == 5:
                    crossing = Crossing(streams, clashes)
                    for chosen in product([(1, 3), HALF, LITTLE_MORE], repeat=streams):
                        expected = expected_paper(streams, clashes, chosen)
                        self.assertIs(is_paper(crossing, list(chosen)), expected, (clashes, chosen))


class TestBound(unittest.TestCase):
    def test_some_bounds(self):
        self.assertEqual(bound([ONE], [7]), (7, 1))
        self.assertEqual(bound([NOUGHT], [7]), (0, 1))
        self.assertEqual(bound([HALF] * 5, [1, 1, 1, 1, 1]), (5, 2))
        self.assertEqual(bound([HALF] * 5, [1, 1, 1, 1, 2]), (3, 1))
        self.assertEqual(bound([(1, 3), (1, 6), (3, 4)], [2, 3, 4]), (25, 6))
        self.assertEqual(bound([(1, 3), (1, 6), (3, 4)], [0, 0, 0]), (0, 1))

    def test_each_weight_goes_with_its_own_wish(self):
        self.assertEqual(bound([ONE, NOUGHT], [3, 5]), (3, 1))
        self.assertEqual(bound([NOUGHT, ONE], [3, 5]), (5, 1))

    def test_wishes_of_twenty_figures(self):
        self.assertEqual(bound([HALF, (1, LONG)], [LONG + 1, LONG]), (LONG + 3, 2))
        self.assertEqual(bound([(1, LONG), (LONG - 1, LONG)], [1, 1]), (1, 1))

    def test_weights_that_are_no_paper(self):
        self.assertEqual(bound([(3, 1), (5, 2)], [1, 1]), (11, 2))

    def test_many_bounds(self):
        for weights in product([NOUGHT, (1, 3), HALF, (5, 6), ONE], repeat=3):
            for wishes in product([0, 1, 2, 3, LONG], repeat=3):
                expected = sum(Fraction(*weight) * wish for weight, wish in zip(weights, wishes))
                answer = bound(list(weights), list(wishes))
                check_form(self, answer)
                self.assertEqual(answer, part(expected))


class TestNothingShared(unittest.TestCase):
    def test_what_is_handed_in_stays_as_it_was(self):
        crossing = Crossing(5, RING)
        weights = [HALF, (1, 3), NOUGHT, ONE, HALF]
        wishes = [5, 4, 0, 2, 1]
        is_paper(crossing, weights)
        bound(weights, wishes)
        self.assertEqual(weights, [HALF, (1, 3), NOUGHT, ONE, HALF])
        self.assertEqual(wishes, [5, 4, 0, 2, 1])

    def test_lists_that_are_changed_later(self):
        crossing = Crossing(2, [])
        weights = [HALF, HALF]
        wishes = [1, 2]
        self.assertIs(is_paper(crossing, weights), True)
        self.assertEqual(bound(weights, wishes), (3, 2))
        weights[0] = ONE
        wishes[1] = 4
        self.assertIs(is_paper(crossing, weights), False)
        self.assertEqual(bound(weights, wishes), (3, 1))


if __name__ == "__main__":
    unittest.main()

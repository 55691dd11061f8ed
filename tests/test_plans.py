import unittest
from fractions import Fraction
from itertools import product

from greenturns.crossing import Crossing
from greenturns.errors import BadWish, NoStream
from greenturns.plans import going, green, longest_wait, round_of, serves
from tests.helper import FAR, RING, all_pairs, check_form, check_refused, part

LENGTHS = [(1, 2), (2, 3), (3, 1), (7, 10)]
THREE = [((0, 2), (3, 2)), ((1,), (2, 3)), ((), (1, 6))]
LONG = 12345678901234567890


def some_plans():
    groups = [(), (0,), (1,), (0, 1)]
    for count in range(1, 5):
        for chosen in product(groups, repeat=count):
            yield [(group, length) for group, length in zip(chosen, LENGTHS)]
    for chosen in product([(), (0,), (0, 3, 5)], repeat=6):
        yield [(group, LENGTHS[place * 3 % 4]) for place, group in enumerate(chosen)]


def expected_round(plan):
    return sum((Fraction(*length) for group, length in plan), Fraction(0))


def expected_going(plan, moment):
    left = moment % expected_round(plan)
    for group, length in plan:
        if left < Fraction(*length):
            return group
        left -= Fraction(*length)


def green_stretches(plan, stream, rounds):
    stretches = []
    now = Fraction(0)
    for group, length in plan * rounds:
        then = now + Fraction(*length)
        if stream in group:
            if stretches and stretches[-1][1] == now:
                stretches[-1][1] = then
            else:
                stretches.append([now, then])
        now = then
    return stretches


def expected_wait(plan, stream):
    stretches = green_stretches(plan, stream, 3)
    if not stretches:
        return None
    return max([later[0] - early[1] for early, later in zip(stretches, stretches[1:])], default=Fraction(0))


def moments_of(plan):
    # Each phase's beginning, one just ahead of it and one just behind it, and the round's end.
    little = Fraction(1, 10 ** 25)
    now = Fraction(0)
    yield now
    for group, length in plan:
        yield now + Fraction(*length) / 3
        now += Fraction(*length)
        yield from [now - little, now, now + little]


class TestRounds(unittest.TestCase):
    def test_no_phases(self):
        self.assertEqual(round_of([]), (0, 1))

    def test_one_phase(self):
        self.assertEqual(round_of([((0,), (7, 3))]), (7, 3))
        self.assertEqual(round_of([((), (5, 1))]), (5, 1))

    def test_several_phases(self):
        self.assertEqual(round_of(THREE), (7, 3))
        self.assertEqual(round_of([((0,), (1, 2)), ((0,), (1, 2))]), (1, 1))
        self.assertEqual(round_of([((0,), (1, LONG)), ((1,), (LONG - 1, LONG))]), (1, 1))

    def test_some_plans(self):
        for plan in some_plans():
            answer = round_of(plan)
            check_form(self, answer)
            self.assertEqual(answer, part(expected_round(plan)), plan)


class TestGreen(unittest.TestCase):
    def test_one_phase(self):
        self.assertEqual(green([((0, 2), (7, 3))], 0), (7, 3))
        self.assertEqual(green([((0, 2), (7, 3))], 1), (0, 1))
        self.assertEqual(green([((0, 2), (7, 3))], 2), (7, 3))
        self.assertEqual(green([((), (7, 3))], 0), (0, 1))

    def test_several_phases(self):
        plan = THREE + [((0, 1), (1, 3))]
        self.assertEqual(green(plan, 0), (11, 6))
        self.assertEqual(green(plan, 1), (1, 1))
        self.assertEqual(green(plan, 2), (3, 2))
        self.assertEqual(green(plan, 3), (0, 1))

    def test_no_phases(self):
        self.assertEqual(green([], 0), (0, 1))

    def test_some_plans(self):
        for plan in some_plans():
            for stream in range(6):
                answer = green(plan, stream)
                check_form(self, answer)
                own = [phase for phase in plan if stream in phase[0]]
                self.assertEqual(answer, part(expected_round(own)), (plan, stream))


class TestGoing(unittest.TestCase):
    def test_one_phase_goes_at_every_moment(self):
        for moment in [(0, 1), (1, 3), (7, 3), (14, 3), (100, 1), (10 ** 20 + 1, 7)]:
            self.assertEqual(going([((0, 2), (7, 3))], moment), (0, 2))
            self.assertEqual(going([((), (7, 3))], moment), ())

    def test_within_the_first_round(self):
        self.assertEqual(going(THREE, (1, 2)), (0, 2))
        self.assertEqual(going(THREE, (5, 3)), (1,))
        self.assertEqual(going(THREE, (9, 4)), ())

    def test_a_phase_begins_at_its_beginning(self):
        self.assertEqual(going(THREE, (0, 1)), (0, 2))
        self.assertEqual(going(THREE, (3, 2)), (1,))
        self.assertEqual(going(THREE, (13, 6)), ())

    def test_just_ahead_of_a_phase_it_is_the_one_before(self):
        self.assertEqual(going(THREE, (3 * 10 ** 30 - 1, 2 * 10 ** 30)), (0, 2))
        self.assertEqual(going(THREE, (13 * 10 ** 30 - 1, 6 * 10 ** 30)), (1,))
        self.assertEqual(going(THREE, part(Fraction(7, 3) - Fraction(1, 10 ** 30))), ())

    def test_the_end_of_the_round_is_the_first_phase(self):
        self.assertEqual(going(THREE, (7, 3)), (0, 2))
        self.assertEqual(going(THREE, (14, 3)), (0, 2))
        self.assertEqual(going(THREE, (7, 1)), (0, 2))

    def test_many_rounds_on(self):
        plan = [((0,), (1, 1)), ((1,), (2, 1))]
        self.assertEqual(going(plan, (3 * 10 ** 20, 1)), (0,))
        self.assertEqual(going(plan, (3 * 10 ** 20 + 1, 1)), (1,))
        self.assertEqual(going(plan, (3 * 10 ** 20 + 2, 1)), (1,))
        self.assertEqual(going(plan, (6 * 10 ** 20 + 1, 2)), (0,))
        self.assertEqual(going(plan, (3 * 10 ** 5000 + 1, 1)), (1,))

    def test_long_lengths(self):
        plan = [((0,), (10 ** 20, 3)), ((1,), (1, 10 ** 20)), ((2,), (10 ** 20 + 1, 7))]
        for moment in moments_of(plan):
            for rounds in [0, 1, LONG]:
                late = moment + rounds * expected_round(plan)
                self.assertEqual(going(plan, part(late)), expected_going(plan, late))

    def test_like_phases_behind_each_other(self):
        plan = [((0,), (1, 2)), ((0,), (1, 2)), ((1,), (1, 2))]
        self.assertEqual([going(plan, (k, 4)) for k in range(7)], [(0,)] * 4 + [(1,)] * 2 + [(0,)])

    def test_some_plans(self):
        for plan in some_plans():
            if len(plan) > 4 and plan[0][0] != ():
                continue
            for moment in moments_of(plan):
                for rounds in [0, 1, LONG]:
                    late = moment + rounds * expected_round(plan)
                    self.assertEqual(going(plan, part(late)), expected_going(plan, late), (plan, late))

    def test_without_phases_no_stream_goes(self):
        self.assertEqual(going([], (0, 1)), ())
        self.assertEqual(going([], (5, 2)), ())


class TestLongestWait(unittest.TestCase):
    def test_nought_for_a_stream_that_goes_all_the_time(self):
        self.assertEqual(longest_wait([((0,), (7, 3))], 0), (0, 1))
        self.assertEqual(longest_wait([((0, 1), (1, 2)), ((0,), (2, 3)), ((0, 2), (3, 1))], 0), (0, 1))

    def test_none_for_a_stream_that_never_goes(self):
        self.assertIsNone(longest_wait([((0,), (7, 3))], 1))
        self.assertIsNone(longest_wait([((), (7, 3))], 0))
        self.assertIsNone(longest_wait(THREE, 3))
        self.assertIsNone(longest_wait([], 0))

    def test_a_wait_within_the_round(self):
        plan = [((0,), (1, 1)), ((1,), (1, 2)), ((), (1, 3)), ((0, 1), (2, 1))]
        self.assertEqual(longest_wait(plan, 0), (5, 6))

    def test_a_wait_over_the_end_of_the_round(self):
        plan = [((), (1, 2)), ((1,), (1, 3)), ((0,), (2, 1)), ((1,), (1, 6))]
        self.assertEqual(longest_wait(plan, 0), (1, 1))
        self.assertEqual(longest_wait(plan, 1), (2, 1))

    def test_the_longest_of_several_waits(self):
        plan = [((1,), (1, 1)), ((0,), (1, 1)), ((1,), (3, 2)), ((0,), (1, 1)), ((1,), (1, 3))]
        self.assertEqual(longest_wait(plan, 0), (3, 2))
        longer = plan + [((), (1, 5))]
        self.assertEqual(longest_wait(longer, 0), (23, 15))

    def test_a_wait_at_the_end_or_at_the_beginning_alone(self):
        self.assertEqual(longest_wait([((0,), (1, 1)), ((1,), (5, 2))], 0), (5, 2))
        self.assertEqual(longest_wait([((1,), (5, 2)), ((0,), (1, 1))], 0), (5, 2))

    def test_long_lengths(self):
        plan = [((1,), (1, 10 ** 20)), ((0,), (1, 1)), ((1,), (10 ** 20, 1))]
        self.assertEqual(longest_wait(plan, 0), (10 ** 40 + 1, 10 ** 20))

    def test_some_plans(self):
        for plan in some_plans():
            for stream in [0, 1, 3]:
                answer = longest_wait(plan, stream)
                expected = expected_wait(plan, stream)
                if expected is None:
                    self.assertIsNone(answer, (plan, stream))
                else:
                    check_form(self, answer)
                    self.assertEqual(answer, part(expected), (plan, stream))


class TestServes(unittest.TestCase):
    def setUp(self):
        self.crossing = Crossing(3, [(0, 1), (1, 2)])

    def test_met_exactly(self):
        plan = [((0, 2), (3, 1)), ((1,), (2, 1))]
        self.assertIs(serves(self.crossing, [3, 2, 3], plan), True)
        self.assertIs(serves(self.crossing, [3, 2, 1], plan), True)
        self.assertIs(serves(self.crossing, [0, 0, 0], plan), True)

    def test_met_by_several_phases_together(self):
        plan = [((0, 2), (1, 2)), ((1,), (2, 1)), ((0,), (1, 6)), ((2,), (1, 2)), ((), (9, 1)), ((0,), (1, 3))]
        self.assertIs(serves(self.crossing, [1, 2, 1], plan), True)

    def test_missed_by_little(self):
        plan = [((0, 2), (3, 1)), ((1,), (2, 1))]
        for wishes in [[4, 2, 3], [3, 3, 3], [3, 2, 4]]:
            self.assertIs(serves(self.crossing, wishes, plan), False)
        little = part(2 - Fraction(1, 10 ** 30))
        self.assertIs(serves(self.crossing, [3, 2, 3], [((0, 2), (3, 1)), ((1,), little)]), False)
        self.assertIs(serves(self.crossing, [3, 1, 3], [((0, 2), (3, 1)), ((1,), little)]), True)

    def test_wishes_of_twenty_figures(self):
        plan = [((0, 2), (LONG, 1)), ((1,), (2 * LONG + 1, 2))]
        self.assertIs(serves(self.crossing, [LONG, LONG, LONG], plan), True)
        self.assertIs(serves(self.crossing, [LONG, LONG + 1, LONG], plan), False)
        self.assertIs(serves(self.crossing, [LONG, LONG, LONG + 1], plan), False)

    def test_a_group_with_a_clash(self):
        self.assertIs(serves(self.crossing, [1, 1, 1], [((0, 1, 2), (5, 1))]), False)
        self.assertIs(serves(self.crossing, [0, 0, 0], [((0, 1), (5, 1))]), False)
        good = [((0, 2), (3, 1)), ((1,), (2, 1))]
        for place in range(3):
            plan = good[:place] + [((1, 2), (1, 9))] + good[place:]
            self.assertIs(serves(self.crossing, [3, 2, 3], plan), False)

    def test_no_phases(self):
        self.assertIs(serves(self.crossing, [0, 0, 0], []), True)
        for wishes in [[1, 0, 0], [0, 1, 0], [0, 0, 1]]:
            self.assertIs(serves(self.crossing, wishes, []), False)

    def test_groups_of_none(self):
        self.assertIs(serves(self.crossing, [0, 0, 0], [((), (5, 1))]), True)
        self.assertIs(serves(self.crossing, [0, 1, 0], [((), (5, 1))]), False)

    def test_every_stream_counts(self):
        for streams in range(1, 7):
            crossing = Crossing(streams, [])
            plan = [(tuple(range(streams)), (2, 1))]
            self.assertIs(serves(crossing, [2] * streams, plan), True)
            for stream in range(streams):
                wishes = [2] * streams
                wishes[stream] = 3
                self.assertIs(serves(crossing, wishes, plan), False)


class TestServesRefusals(unittest.TestCase):
    def test_wishes_too_few_and_too_many(self):
        for streams in range(1, 7):
            crossing = Crossing(streams, [])
            plan = [((0,), (1, 1))]
            for count in range(9):
                if count != streams:
                    check_refused(self, BadWish, serves, crossing, [0] * count, plan)
                    check_refused(self, BadWish, serves, crossing, [1] * count, [])

    def test_a_wish_below_nought(self):
        for streams in range(1, 7):
            crossing = Crossing(streams, all_pairs(streams))
            for stream in range(streams):
                for wrong in [-1, -LONG, -FAR]:
                    wishes = [1] * streams
                    wishes[stream] = wrong
                    check_refused(self, BadWish, serves, crossing, wishes, [])
                    check_refused(self, BadWish, serves, crossing, wishes, [((0,), (1, 1))])

    def test_a_bad_wish_behind_one_that_is_missed_or_behind_a_clash(self):
        crossing = Crossing(3, [(0, 1)])
        check_refused(self, BadWish, serves, crossing, [9, 9, -1], [((0,), (1, 1))])
        check_refused(self, BadWish, serves, crossing, [0, 0, -1], [((0, 1), (1, 1))])

    def test_a_stream_that_is_not_there(self):
        crossing = Crossing(5, RING)
        for wrong in [-FAR, -5, -1, 5, 6, 100, FAR]:
            for wishes in [[0] * 5, [1] * 5]:
                for group in [(wrong,), tuple(sorted((0, wrong))), tuple(sorted((0, 1, wrong)))]:
                    check_refused(self, NoStream, serves, crossing, wishes, [(group, (1, 1))])

    def test_a_stream_that_is_not_there_in_any_phase(self):
        crossing = Crossing(3, [(0, 1), (1, 2)])
        plans = [
            [((0, 2), (3, 1)), ((1,), (2, 1))],
            [((0, 1), (3, 1)), ((1,), (2, 1))],
            [((1,), (3, 1)), ((1, 2), (2, 1)), ((), (1, 1))],
        ]
        for plan in plans:
            for place in range(len(plan) + 1):
                wrong = plan[:place] + [((1, 3), (1, 2))] + plan[place:]
                for wishes in [[0, 0, 0], [1, 1, 1], [99, 99, 99]]:
                    check_refused(self, NoStream, serves, crossing, wishes, wrong)

    def test_bad_wish_comes_ahead_of_no_stream(self):
        crossing = Crossing(3, [(0, 1), (1, 2)])
        for wishes in [[], [1, 1], [1, 1, 1, 1], [-1, 0, 0], [0, 0, -1]]:
            for plan in [[((3,), (1, 1))], [((0, 1), (1, 1)), ((-1, 0), (1, 1))]]:
                check_refused(self, BadWish, serves, crossing, wishes, plan)


class TestNothingShared(unittest.TestCase):
    def test_what_is_handed_in_stays_as_it_was(self):
        crossing = Crossing(3, [(0, 1), (1, 2)])
        plan = list(THREE)
        wishes = [1, 0, 1]
        round_of(plan)
        green(plan, 1)
        going(plan, (22, 7))
        longest_wait(plan, 1)
        serves(crossing, wishes, plan)
        self.assertEqual(plan, THREE)
        self.assertEqual(wishes, [1, 0, 1])
        with self.assertRaises(NoStream):
            serves(crossing, wishes, plan + [((3,), (1, 1))])
        self.assertEqual(wishes, [1, 0, 1])
        self.assertEqual(crossing.clashes(), [(0, 1), (1, 2)])

    def test_a_plan_that_is_changed_later(self):
        crossing = Crossing(3, [(0, 1), (1, 2)])
        plan = list(THREE)
        wishes = [1, 0, 1]
        self.assertIs(serves(crossing, wishes, plan), True)
        self.assertEqual(longest_wait(plan, 1), (5, 3))
        plan[0] = ((1,), (1, 1))
        wishes[1] = 1
        self.assertEqual(round_of(plan), (11, 6))
        self.assertEqual(green(plan, 1), (5, 3))
        self.assertEqual(going(plan, (0, 1)), (1,))
        self.assertEqual(longest_wait(plan, 1), (1, 6))
        self.assertIs(serves(crossing, wishes, plan), False)
        plan.clear()
        wishes[0] = wishes[1] = wishes[2] = 0
        self.assertEqual(round_of(plan), (0, 1))
        self.assertIs(serves(crossing, wishes, plan), True)


if __name__ == "__main__":
    unittest.main()

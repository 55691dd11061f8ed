import unittest
from fractions import Fraction
from itertools import combinations, product

from greenturns.crossing import Crossing
from greenturns.errors import BadWish
from greenturns.papers import bound, is_paper
from greenturns.plans import round_of, serves
from greenturns.shortest import shortest
from tests.helper import (
    FAR, RING, all_clash_lists, all_groups, all_pairs, check_form, check_refused, full_groups, may_go, part,
)

LONG = 12345678901234567890
RING_PAIRS = sorted(tuple(sorted(pair)) for pair in RING)
# Which streams of the ring a sixth one clashes with: each choice there is, but for turns and mirrors.
SIXTH = [(), (0,), (0, 1), (0, 2), (0, 1, 2), (0, 1, 3), (0, 1, 2, 3), (0, 1, 2, 3, 4)]


def some_wishes(streams):
    row = [3, 1, 4, 1, 5, 9]
    long_row = [LONG, 10 ** 20 - 1, 10 ** 19, LONG + 7, 98765432109876543210, 10 ** 20 - 3]
    yield [1] * streams
    yield row[:streams]
    yield [0, 7, 0, 2, 5, 0][:streams]
    yield long_row[:streams]
    yield [0, 1, LONG, 2, 0, LONG + 1][:streams]


def solved(rows):
    # The one answer of as many rows as there are unknowns, or None where there isn't just one.
    rows = [list(row) for row in rows]
    for place in range(len(rows)):
        found = [k for k in range(place, len(rows)) if rows[k][place] != 0]
        if not found:
            return None
        rows[place], rows[found[0]] = rows[found[0]], rows[place]
        first = rows[place][place]
        rows[place] = [value / first for value in rows[place]]
        for k in range(len(rows)):
            if k != place and rows[k][place] != 0:
                factor = rows[k][place]
                rows[k] = [one - factor * other for one, other in zip(rows[k], rows[place])]
    return [row[-1] for row in rows]


def corners(streams, clashes):
    # Every paper that can't be the middle of two others: the greatest bound is that of one of them.
    groups = full_groups(streams, clashes)
    papers = set()
    for count in range(streams + 1):
        for heavy in combinations(range(streams), count):
            for tight in combinations(groups, count):
                rows = [[Fraction(stream in group) for stream in heavy] + [Fraction(1)] for group in tight]
                values = solved(rows)
                if values is not None and min(values, default=0) >= 0:
                    weights = dict(zip(heavy, values))
                    papers.add(tuple(weights.get(stream, Fraction(0)) for stream in range(streams)))
    return [
        paper for paper in papers
        if all(sum(paper[stream] for stream in group) <= 1 for group in groups)
    ]


def greatest_bound(papers, wishes):
    return max(sum(weight * wish for weight, wish in zip(paper, wishes)) for paper in papers)


def has_ring(streams, clashes):
    # Five streams, each of which clashes with just two of the others: only a ring of five is like that.
    for five in combinations(range(streams), 5):
        own = [pair for pair in clashes if pair[0] in five and pair[1] in five]
        if all(sum(stream in pair for pair in own) == 2 for stream in five):
            return True
    return False


def heaviest_jam(streams, clashes, wishes):
    # Streams that all clash with each other must all go in turn. Where there is no ring of five, no other
    # thing keeps the round long (a crossing of up to six streams without one is a perfect graph).
    free = [pair for pair in all_pairs(streams) if pair not in clashes]
    return max(sum(wishes[stream] for stream in jam) for jam in all_groups(streams, free))


class ShortestTest(unittest.TestCase):
    def check(self, streams, clashes, wishes, expected=None):
        told = (streams, clashes, wishes)
        answer = shortest(Crossing(streams, clashes), wishes)
        self.assertIs(type(answer), tuple)
        self.assertEqual(len(answer), 2)
        plan, paper = answer
        self.assertIs(type(plan), list)
        self.assertIs(type(paper), list)
        length = self.check_plan(streams, clashes, wishes, plan)
        self.check_paper(streams, clashes, paper)
        self.assertEqual(sum(Fraction(*weight) * wish for weight, wish in zip(paper, wishes)), length, told)
        if expected is not None:
            self.assertEqual(length, expected, told)

    def check_plan(self, streams, clashes, wishes, plan):
        self.assertLessEqual(len(plan), len(full_groups(streams, clashes)))
        greens = [Fraction(0)] * streams
        for phase in plan:
            self.assertIs(type(phase), tuple)
            group, length = phase
            self.assertIs(type(group), tuple)
            self.assertEqual(list(group), sorted(set(group)))
            self.assertTrue(set(group) <= set(range(streams)))
            self.assertTrue(may_go(clashes, group))
            check_form(self, length)
            self.assertGreater(length[0], 0)
            for stream in group:
                greens[stream] += Fraction(*length)
        for got, wish in zip(greens, wishes):
            self.assertGreaterEqual(got, wish, (streams, clashes, wishes))
        return sum((Fraction(*length) for group, length in plan), Fraction(0))

    def check_paper(self, streams, clashes, paper):
        self.assertEqual(len(paper), streams)
        for weight in paper:
            check_form(self, weight)
            self.assertGreaterEqual(weight[0], 0)
        for group in full_groups(streams, clashes):
            self.assertLessEqual(sum(Fraction(*paper[stream]) for stream in group), 1)


class TestKnownAnswers(ShortestTest):
    def test_without_clashes_the_greatest_wish(self):
        for streams in range(1, 7):
            for wishes in some_wishes(streams):
                self.check(streams, [], wishes, max(wishes))

    def test_with_all_clashes_all_wishes_together(self):
        for streams in range(1, 7):
            for wishes in some_wishes(streams):
                self.check(streams, all_pairs(streams), wishes, sum(wishes))

    def test_a_row_of_three(self):
        self.check(3, [(0, 1), (1, 2)], [3, 2, 4], 6)
        self.check(3, [(0, 1), (1, 2)], [5, 2, 4], 7)
        self.check(3, [(0, 1), (1, 2)], [5, 0, 9], 9)

    def test_a_ring_of_five_among_five(self):
        self.check(5, RING_PAIRS, [1, 1, 1, 1, 1], Fraction(5, 2))
        self.check(5, RING_PAIRS, [1, 1, 1, 1, 2], 3)
        self.check(5, RING_PAIRS, [2, 2, 2, 2, 3], Fraction(11, 2))
        self.check(5, RING_PAIRS, [1, 1, 0, 1, 1], 2)
        self.check(5, RING_PAIRS, [9, 9, 1, 1, 1], 18)
        self.check(5, RING_PAIRS, [10 ** 20 - 1] * 5, Fraction(5 * (10 ** 20 - 1), 2))
        self.check(5, RING_PAIRS, [10 ** 20 + 1] * 4 + [10 ** 20], Fraction(5 * 10 ** 20 + 4, 2))

    def test_a_ring_of_five_among_six(self):
        hub = RING_PAIRS + [(stream, 5) for stream in range(5)]
        self.check(6, RING_PAIRS, [1] * 6, Fraction(5, 2))
        self.check(6, RING_PAIRS, [1, 1, 1, 1, 1, 7], 7)
        self.check(6, hub, [1] * 6, Fraction(7, 2))
        self.check(6, hub, [1, 1, 1, 1, 1, LONG], LONG + Fraction(5, 2))

    def test_wishes_of_nought(self):
        for streams in range(1, 7):
            for clashes in [[], all_pairs(streams), all_pairs(streams)[::2], all_pairs(streams)[1::3]]:
                wishes = [0] * streams
                plan, paper = shortest(Crossing(streams, clashes), wishes)
                self.assertEqual(plan, [])
                self.check(streams, clashes, wishes, 0)
        for streams in [5, 6]:
            self.assertEqual(shortest(Crossing(streams, RING), [0] * streams)[0], [])
            self.check(streams, RING_PAIRS, [0] * streams, 0)

    def test_one_wish_alone(self):
        for clashes in [[], RING_PAIRS, all_pairs(6)]:
            for stream in range(6):
                for wish in [1, LONG]:
                    wishes = [0] * 6
                    wishes[stream] = wish
                    self.check(6, clashes, wishes, wish)

    def test_very_long_wishes(self):
        plan, paper = shortest(Crossing(5, RING), [FAR, FAR + 1, FAR, FAR, FAR])
        self.assertTrue(round_of(plan) == part(Fraction(5 * FAR + 1, 2)))
        self.assertTrue(bound(paper, [FAR, FAR + 1, FAR, FAR, FAR]) == round_of(plan))

    def test_the_program_itself_agrees(self):
        for streams, clashes in [(1, []), (4, [(0, 1), (2, 3)]), (5, RING), (6, RING), (6, all_pairs(6))]:
            crossing = Crossing(streams, clashes)
            for wishes in some_wishes(streams):
                plan, paper = shortest(crossing, wishes)
                self.assertIs(serves(crossing, wishes, plan), True)
                self.assertIs(is_paper(crossing, paper), True)
                self.assertEqual(bound(paper, wishes), round_of(plan))


class TestReckonedAnotherWay(ShortestTest):
    def test_all_crossings_of_up_to_three_streams_and_all_small_wishes(self):
        for streams in range(1, 4):
            for clashes in all_clash_lists(streams):
                papers = corners(streams, clashes)
                for wishes in product(range(4), repeat=streams):
                    self.check(streams, clashes, list(wishes), greatest_bound(papers, wishes))

    def test_all_crossings_of_four_streams(self):
        for clashes in all_clash_lists(4):
            papers = corners(4, clashes)
            for wishes in some_wishes(4):
                expected = greatest_bound(papers, wishes)
                self.assertEqual(expected, heaviest_jam(4, clashes, wishes))
                self.check(4, clashes, wishes, expected)

    def test_all_crossings_of_five_streams(self):
        rings = 0
        for clashes in all_clash_lists(5):
            ring = has_ring(5, clashes)
            rings += ring
            for wishes in [[1] * 5, [3, 1, 4, 1, 5], [LONG, 10 ** 20 - 1, 10 ** 19, LONG + 7, 0]]:
                expected = Fraction(heaviest_jam(5, clashes, wishes))
                if ring:
                    # A ring's groups are pairs, so each moment gives at most two streams their time.
                    expected = max(expected, Fraction(sum(wishes), 2))
                self.check(5, clashes, wishes, expected)
        self.assertEqual(rings, 12)

    def test_a_ring_of_five_and_all_small_wishes(self):
        papers = corners(5, RING_PAIRS)
        for wishes in product(range(3), repeat=5):
            self.check(5, RING_PAIRS, list(wishes), greatest_bound(papers, wishes))

    def test_a_ring_of_five_and_a_sixth_stream(self):
        for clashing in SIXTH:
            clashes = RING_PAIRS + [(stream, 5) for stream in clashing]
            papers = corners(6, clashes)
            for wishes in product([0, 1, 2], [1], [1, 3], [1, 2], [2, LONG], [0, 1, 2, LONG + 1]):
                self.check(6, clashes, list(wishes), greatest_bound(papers, wishes))
            for wishes in some_wishes(6):
                self.check(6, clashes, wishes, greatest_bound(papers, wishes))

    def test_some_crossings_of_six_streams(self):
        for number, clashes in enumerate(all_clash_lists(6)):
            if number % 23 == 0:
                ring = has_ring(6, clashes)
                for wishes in some_wishes(6):
                    self.check(6, clashes, wishes, None if ring else heaviest_jam(6, clashes, wishes))

    def test_clashes_told_either_way_round_and_twice(self):
        told = [(4, 0), (1, 0), (2, 1), (0, 1), (3, 2), (4, 3), (0, 4)]
        for streams in [5, 6]:
            wishes = [1] * streams
            self.assertEqual(round_of(shortest(Crossing(streams, told), wishes)[0]), (5, 2))


class TestRefusals(unittest.TestCase):
    def test_wishes_too_few_and_too_many(self):
        for streams in range(1, 7):
            for clashes in [[], all_pairs(streams)]:
                crossing = Crossing(streams, clashes)
                for count in range(9):
                    if count != streams:
                        check_refused(self, BadWish, shortest, crossing, [0] * count)
                        check_refused(self, BadWish, shortest, crossing, [2] * count)

    def test_a_wish_below_nought(self):
        for streams in range(1, 7):
            for clashes in [[], all_pairs(streams)]:
                crossing = Crossing(streams, clashes)
                for stream in range(streams):
                    for wrong in [-1, -LONG, -FAR]:
                        for other in [0, 1, LONG]:
                            wishes = [other] * streams
                            wishes[stream] = wrong
                            check_refused(self, BadWish, shortest, crossing, wishes)

    def test_too_many_and_below_nought_at_once(self):
        check_refused(self, BadWish, shortest, Crossing(2, []), [1, 1, -1])
        check_refused(self, BadWish, shortest, Crossing(2, []), [-1])


class TestNothingShared(unittest.TestCase):
    def test_what_is_handed_in_stays_as_it_was(self):
        clashes = list(RING)
        crossing = Crossing(5, clashes)
        wishes = [3, 1, 4, 1, 5]
        shortest(crossing, wishes)
        self.assertEqual(wishes, [3, 1, 4, 1, 5])
        self.assertEqual(clashes, RING)
        self.assertEqual(crossing.clashes(), RING_PAIRS)
        self.assertEqual(crossing.full(), full_groups(5, RING_PAIRS))
        wrong = [3, 1, 4, 1, -5]
        with self.assertRaises(BadWish):
            shortest(crossing, wrong)
        self.assertEqual(wrong, [3, 1, 4, 1, -5])

    def test_changing_what_was_handed_in_changes_nothing(self):
        crossing = Crossing(5, RING)
        wishes = [1] * 5
        plan, paper = shortest(crossing, wishes)
        kept = (list(plan), list(paper))
        wishes[0] = 99
        wishes.append(7)
        self.assertEqual((plan, paper), kept)
        self.assertEqual(round_of(shortest(crossing, [1] * 5)[0]), (5, 2))

    def test_changing_what_was_told_changes_nothing(self):
        crossing = Crossing(5, RING)
        for wishes in [[1] * 5, [0] * 5]:
            plan, paper = shortest(crossing, wishes)
            kept = (list(plan), list(paper))
            handed = list(wishes)
            plan.append(((0, 1), (99, 1)))
            paper.clear()
            self.assertEqual(wishes, handed)
            self.assertEqual(shortest(crossing, wishes), kept)
            self.assertEqual(crossing.full(), full_groups(5, RING_PAIRS))

    def test_no_two_told_lists_are_one(self):
        for streams in range(1, 7):
            crossing = Crossing(streams, [])
            for wishes in [[0] * streams, [1] * streams]:
                one = shortest(crossing, wishes)
                other = shortest(crossing, wishes)
                lists = [one[0], one[1], other[0], other[1], wishes, crossing.full(), crossing.clashes()]
                self.assertEqual(len({id(told) for told in lists}), len(lists))


if __name__ == "__main__":
    unittest.main()

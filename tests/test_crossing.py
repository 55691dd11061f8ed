import unittest
from itertools import combinations, permutations

from greenturns.crossing import Crossing
from greenturns.errors import BadClash, BadSize, NoStream
from tests.helper import FAR, RING, all_clash_lists, all_pairs, check_refused, full_groups, may_go


def ways_to_tell(clashes):
    turned = [(b, a) for a, b in clashes]
    return [
        list(clashes),
        turned,
        list(reversed(clashes)),
        clashes + turned,
        turned + turned,
        list(reversed(turned)) + clashes + clashes,
    ]


class TestCrossing(unittest.TestCase):
    def check_told(self, streams, clashes, crossing):
        self.assertEqual(crossing.size(), streams)
        self.assertEqual(crossing.clashes(), sorted(clashes))
        self.assertEqual(crossing.full(), full_groups(streams, clashes))
        for one in range(streams):
            for other in range(streams):
                expected = (one, other) in clashes or (other, one) in clashes
                self.assertIs(crossing.clash(one, other), expected, (one, other))

    def check_groups(self, streams, clashes, crossing):
        for count in range(streams + 1):
            for group in combinations(range(streams), count):
                expected = may_go(clashes, group)
                turned = tuple(reversed(group))
                for told in [group, turned, group + group[:1], turned + group[:1], turned + group]:
                    self.assertIs(crossing.together(told), expected, told)
                    self.assertIs(crossing.together(list(told)), expected, told)


class TestKnownCrossings(TestCrossing):
    def test_without_clashes(self):
        for streams in range(1, 7):
            with self.subTest(streams=streams):
                crossing = Crossing(streams, [])
                self.assertEqual(crossing.size(), streams)
                self.assertEqual(crossing.clashes(), [])
                self.assertEqual(crossing.full(), [tuple(range(streams))])
                self.check_groups(streams, [], crossing)

    def test_with_all_clashes(self):
        for streams in range(1, 7):
            with self.subTest(streams=streams):
                crossing = Crossing(streams, all_pairs(streams))
                self.assertEqual(crossing.clashes(), all_pairs(streams))
                self.assertEqual(crossing.full(), [(stream,) for stream in range(streams)])
                self.check_groups(streams, all_pairs(streams), crossing)

    def test_a_row_of_three(self):
        crossing = Crossing(3, [(2, 1), (1, 0)])
        self.assertEqual(crossing.clashes(), [(0, 1), (1, 2)])
        self.assertEqual(crossing.full(), [(0, 2), (1,)])
        self.assertIs(crossing.clash(0, 1), True)
        self.assertIs(crossing.clash(1, 0), True)
        self.assertIs(crossing.clash(0, 2), False)
        self.assertIs(crossing.clash(1, 1), False)
        self.assertIs(crossing.together([2, 0]), True)
        self.assertIs(crossing.together((2, 1)), False)

    def test_a_ring_of_five_among_five(self):
        crossing = Crossing(5, RING)
        self.assertEqual(crossing.clashes(), [(0, 1), (0, 4), (1, 2), (2, 3), (3, 4)])
        self.assertEqual(crossing.full(), [(0, 2), (0, 3), (1, 3), (1, 4), (2, 4)])

    def test_a_ring_of_five_among_six(self):
        crossing = Crossing(6, RING)
        self.assertEqual(crossing.clashes(), [(0, 1), (0, 4), (1, 2), (2, 3), (3, 4)])
        self.assertEqual(
            crossing.full(), [(0, 2, 5), (0, 3, 5), (1, 3, 5), (1, 4, 5), (2, 4, 5)]
        )

    def test_full_groups_of_unlike_lengths_rise_as_tuples(self):
        crossing = Crossing(6, [(0, 3), (1, 2), (1, 4)])
        self.assertEqual(crossing.full(), [(0, 1, 5), (0, 2, 4, 5), (1, 3, 5), (2, 3, 4, 5)])
        star = Crossing(4, [(0, 1), (0, 2), (0, 3)])
        self.assertEqual(star.full(), [(0,), (1, 2, 3)])

    def test_no_streams_and_one_stream_may_always_go(self):
        crossing = Crossing(6, all_pairs(6))
        self.assertIs(crossing.together(()), True)
        self.assertIs(crossing.together([]), True)
        for stream in range(6):
            self.assertIs(crossing.together((stream,)), True)
            self.assertIs(crossing.together([stream, stream, stream]), True)
            self.assertIs(crossing.clash(stream, stream), False)

    def test_a_group_in_every_order(self):
        crossing = Crossing(6, RING)
        for group in permutations((0, 2, 5)):
            self.assertIs(crossing.together(group), True)
        for group in permutations((0, 2, 3, 5)):
            self.assertIs(crossing.together(group), False)

    def test_more_than_forty_pairs_are_not_refused(self):
        crossing = Crossing(6, RING * 9)
        self.assertEqual(crossing.clashes(), Crossing(6, RING).clashes())

    def test_kinds_of_what_is_told(self):
        crossing = Crossing(6, RING)
        self.assertIs(type(crossing.size()), int)
        for told in [crossing.full(), crossing.clashes()]:
            self.assertIs(type(told), list)
            for group in told:
                self.assertIs(type(group), tuple)


class TestAllCrossings(TestCrossing):
    def test_all_crossings_of_up_to_five_streams(self):
        for streams in range(1, 6):
            for clashes in all_clash_lists(streams):
                self.check_told(streams, clashes, Crossing(streams, clashes))

    def test_all_groups_of_up_to_four_streams(self):
        for streams in range(1, 5):
            for clashes in all_clash_lists(streams):
                self.check_groups(streams, clashes, Crossing(streams, clashes))

    def test_some_crossings_of_six_streams(self):
        for number, clashes in enumerate(all_clash_lists(6)):
            if number % 97 == 0:
                self.check_told(6, clashes, Crossing(6, clashes))
                self.check_groups(6, clashes, Crossing(6, clashes))

    def test_clashes_told_either_way_round_and_twice(self):
        for streams in range(1, 5):
            for clashes in all_clash_lists(streams):
                for told in ways_to_tell(clashes):
                    self.check_told(streams, clashes, Crossing(streams, told))

    def test_rings_told_either_way_round_and_twice(self):
        rising = [tuple(sorted(pair)) for pair in RING]
        for streams in [5, 6]:
            for told in ways_to_tell(RING):
                crossing = Crossing(streams, told)
                self.check_told(streams, rising, crossing)
                self.check_groups(streams, rising, crossing)


class TestNothingShared(unittest.TestCase):
    def test_what_is_handed_in_stays_as_it_was(self):
        clashes = [(3, 2), (1, 0), (0, 1), (3, 2)]
        crossing = Crossing(4, clashes)
        crossing.clashes()
        crossing.full()
        self.assertEqual(clashes, [(3, 2), (1, 0), (0, 1), (3, 2)])
        for group in [[3, 0, 3], [3, 2, 0], []]:
            before = list(group)
            crossing.together(group)
            self.assertEqual(group, before)

    def test_a_refusal_leaves_what_is_handed_in(self):
        clashes = [(1, 0), (0, 1), (1, 7)]
        with self.assertRaises(BadClash):
            Crossing(3, clashes)
        self.assertEqual(clashes, [(1, 0), (0, 1), (1, 7)])
        group = [1, 0, 7]
        with self.assertRaises(NoStream):
            Crossing(3, [(0, 1)]).together(group)
        self.assertEqual(group, [1, 0, 7])

    def test_changing_what_was_handed_in_changes_nothing(self):
        # In told order too, where a program might keep the list as it came.
        for told in [[(0, 1), (1, 2)], [(2, 1), (1, 0)]]:
            crossing = Crossing(3, told)
            told.append((0, 2))
            told[0] = (0, 2)
            self.assert_row_of_three(crossing)
            told.clear()
            self.assert_row_of_three(crossing)

    def test_an_empty_list_that_is_filled_later(self):
        clashes = []
        crossing = Crossing(2, clashes)
        clashes.append((0, 1))
        self.assertEqual(crossing.clashes(), [])
        self.assertEqual(crossing.full(), [(0, 1)])
        self.assertIs(crossing.clash(0, 1), False)

    def test_changing_what_was_told_changes_nothing(self):
        crossing = Crossing(3, [(0, 1), (1, 2)])
        for told in [crossing.clashes(), crossing.full()]:
            told.append((0, 2))
            told[0] = (5, 5)
            self.assert_row_of_three(crossing)
            told.clear()
            self.assert_row_of_three(crossing)

    def test_no_two_told_lists_are_one(self):
        handed = [(0, 1), (1, 2)]
        crossing = Crossing(3, handed)
        self.assertIsNot(crossing.clashes(), crossing.clashes())
        self.assertIsNot(crossing.full(), crossing.full())
        self.assertIsNot(crossing.clashes(), handed)
        kept = [crossing.clashes(), crossing.clashes(), crossing.full(), crossing.full()]
        kept[0].clear()
        kept[2].clear()
        self.assertEqual(kept[1], [(0, 1), (1, 2)])
        self.assertEqual(kept[3], [(0, 2), (1,)])

    def test_two_crossings_from_one_list(self):
        clashes = [(0, 1)]
        first = Crossing(3, clashes)
        clashes.append((1, 2))
        second = Crossing(3, clashes)
        self.assertEqual(first.clashes(), [(0, 1)])
        self.assertEqual(second.clashes(), [(0, 1), (1, 2)])

    def assert_row_of_three(self, crossing):
        self.assertEqual(crossing.size(), 3)
        self.assertEqual(crossing.clashes(), [(0, 1), (1, 2)])
        self.assertEqual(crossing.full(), [(0, 2), (1,)])
        self.assertIs(crossing.clash(0, 1), True)
        self.assertIs(crossing.clash(0, 2), False)
        self.assertIs(crossing.together((0, 2)), True)
        self.assertIs(crossing.together((1, 2)), False)


class TestRefusals(unittest.TestCase):
    def assert_refused(self, kind, call, *handed):
        check_refused(self, kind, call, *handed)

    def test_bad_size(self):
        for streams in [0, -1, -2, -6, 7, 8, 100, FAR, -FAR]:
            self.assert_refused(BadSize, Crossing, streams, [])
            self.assert_refused(BadSize, Crossing, streams, [(0, 1)])

    def test_bad_size_comes_ahead_of_bad_clash(self):
        for streams in [0, -1, 7, 100, FAR]:
            for pair in [(0, 0), (0, -1), (-1, 0), (0, FAR + 1), (200, 0), (3, 3)]:
                self.assert_refused(BadSize, Crossing, streams, [pair])
                self.assert_refused(BadSize, Crossing, streams, [(0, 1), pair])

    def test_clash_with_a_stream_that_is_not_there(self):
        for streams in range(1, 7):
            for wrong in [-1, -streams, -FAR, streams, streams + 1, 100, FAR]:
                for right in range(streams):
                    self.assert_refused(BadClash, Crossing, streams, [(right, wrong)])
                    self.assert_refused(BadClash, Crossing, streams, [(wrong, right)])
                self.assert_refused(BadClash, Crossing, streams, [(wrong, wrong)])
                self.assert_refused(BadClash, Crossing, streams, [(wrong, wrong + 1)])

    def test_clash_of_a_stream_and_itself(self):
        for streams in range(1, 7):
            for stream in range(streams):
                self.assert_refused(BadClash, Crossing, streams, [(stream, stream)])

    def test_bad_clash_at_any_place_of_the_list(self):
        for pair in [(1, 1), (0, 5), (5, 0), (-1, 0), (0, -1)]:
            for place in range(6):
                clashes = RING[:place] + [pair] + RING[place:]
                if pair in [(0, 5), (5, 0)]:
                    self.assertIs(Crossing(6, clashes).clash(0, 5), True)
                self.assert_refused(BadClash, Crossing, 5, clashes)

    def test_clash_asked_for_a_stream_that_is_not_there(self):
        for streams in range(1, 7):
            for clashes in [[], all_pairs(streams)]:
                crossing = Crossing(streams, clashes)
                for wrong in [-1, -streams, -FAR, streams, streams + 1, 100, FAR]:
                    for right in range(streams):
                        self.assert_refused(NoStream, crossing.clash, right, wrong)
                        self.assert_refused(NoStream, crossing.clash, wrong, right)
                    self.assert_refused(NoStream, crossing.clash, wrong, wrong)

    def test_together_asked_for_a_stream_that_is_not_there(self):
        for clashes in [[], RING, all_pairs(5)]:
            crossing = Crossing(5, clashes)
            for wrong in [-1, -5, -FAR, 5, 6, 100, FAR]:
                for group in [(), (2,), (0, 1), (1, 0), (0, 2), (0, 0), (4, 3, 2, 1, 0)]:
                    for place in range(len(group) + 1):
                        told = group[:place] + (wrong,) + group[place:]
                        self.assert_refused(NoStream, crossing.together, told)
                        self.assert_refused(NoStream, crossing.together, list(told))

    def test_a_crossing_answers_as_before_behind_a_refusal(self):
        crossing = Crossing(3, [(0, 1)])
        self.assert_refused(NoStream, crossing.clash, 0, 3)
        self.assert_refused(NoStream, crossing.together, (0, 1, 3))
        self.assertEqual(crossing.size(), 3)
        self.assertEqual(crossing.clashes(), [(0, 1)])
        self.assertEqual(crossing.full(), [(0, 2), (1, 2)])


if __name__ == "__main__":
    unittest.main()

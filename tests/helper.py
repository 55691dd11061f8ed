"""What several test files need: crossings to try, and answers that don't come from the program."""

from fractions import Fraction
from itertools import combinations, product
from math import gcd

from greenturns.errors import TurnError

RING = [(0, 1), (1, 2), (2, 3), (3, 4), (4, 0)]
FAR = 10 ** 5000


def all_pairs(streams):
    return list(combinations(range(streams), 2))


def all_clash_lists(streams):
    pairs = all_pairs(streams)
    for chosen in product([False, True], repeat=len(pairs)):
        yield [pair for pair, taken in zip(pairs, chosen) if taken]


def may_go(clashes, group):
    return not any((a, b) in clashes or (b, a) in clashes for a in group for b in group)


def all_groups(streams, clashes):
    return [
        group
        for count in range(streams + 1)
        for group in combinations(range(streams), count)
        if may_go(clashes, group)
    ]


def full_groups(streams, clashes):
    sets = [set(group) for group in all_groups(streams, clashes)]
    largest = [group for group in sets if not any(group < other for other in sets)]
    return sorted(tuple(sorted(group)) for group in largest)


def part(value):
    value = Fraction(value)
    return (value.numerator, value.denominator)


def check_form(test, answer):
    test.assertIs(type(answer), tuple)
    test.assertEqual(len(answer), 2)
    test.assertIs(type(answer[0]), int)
    test.assertIs(type(answer[1]), int)
    test.assertTrue(answer[1] > 0)
    test.assertEqual(gcd(answer[0], answer[1]), 1)


def check_refused(test, kind, call, *handed):
    with test.assertRaises(TurnError) as taken:
        call(*handed)
    test.assertIs(type(taken.exception), kind)

"""The shortest round: a plan, and a paper that shows that no plan has a shorter one.

The paper with the greatest bound is sought by the simplex method. Its table has a row for each full group,
which says that the group's streams and what is left of the weight (the group's rest) make 1, and as the last
row the costs. Its columns are the streams, then the rests, then the right side.
At the end the cost of a group's rest is how long the group must go: the lengths of the plan.
"""

from greenturns.parts import NOUGHT, ONE, less, minus, over, times, whole
from greenturns.plans import check_wishes


def mark(here):
    return ONE if here else NOUGHT


def first_table(groups, wishes):
    rows = []
    for group in groups:
        streams = [mark(stream in group) for stream in range(len(wishes))]
        rests = [mark(other == group) for other in groups]
        rows.append(streams + rests + [ONE])
    costs = [whole(-wish) for wish in wishes]
    rows.append(costs + [NOUGHT] * len(groups) + [NOUGHT])
    return rows


def column_to_raise(table):
    # The first one, not the one that promises most: with the like choice of the row (Bland's rule)
    # no table comes twice, so there is an end.
    for column, cost in enumerate(table[-1][:-1]):
        if less(cost, NOUGHT):
            return column
    return None


def room(row, column):
    return over(row[-1], row[column])


def row_that_binds(table, held, column):
    # There always is one: no weight can be above 1.
    best = None
    for place in range(len(held)):
        if less(NOUGHT, table[place][column]):
            if best is None or binds_ahead(table, held, column, place, best):
                best = place
    return best


def binds_ahead(table, held, column, place, best):
    here = room(table[place], column)
    there = room(table[best], column)
    return less(here, there) or (here == there and held[place] < held[best])


def without(row, factor, taken):
    return [minus(part, times(factor, other)) for part, other in zip(row, taken)]


def turned(table, place, column):
    head = [over(part, table[place][column]) for part in table[place]]
    rows = [without(row, row[column], head) for row in table]
    rows[place] = head
    return rows


def paper_of(table, held, size):
    weights = [NOUGHT] * size
    for place, column in enumerate(held):
        if column < size:
            weights[column] = table[place][-1]
    return weights


def plan_of(table, groups, size):
    lengths = table[-1][size:-1]
    return [(group, length) for group, length in zip(groups, lengths) if less(NOUGHT, length)]


def shortest(crossing, wishes):
    check_wishes(crossing, wishes)
    size = crossing.size()
    groups = crossing.full()
    table = first_table(groups, wishes)
    # Which column each row tells the value of; all others are nought. At first these are the rests.
    held = [size + place for place in range(len(groups))]
    column = column_to_raise(table)
    while column is not None:
        place = row_that_binds(table, held, column)
        table = turned(table, place, column)
        held[place] = column
        column = column_to_raise(table)
    return (plan_of(table, groups, size), paper_of(table, held, size))

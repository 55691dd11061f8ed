"""Plans: lists of phases (group, length) that come round again and again, and the wishes they serve."""

from greenturns.errors import BadWish
from greenturns.parts import NOUGHT, less, minus, over, plus, times, total, whole


def round_of(plan):
    return total([phase[1] for phase in plan])


def green(plan, stream):
    return round_of([phase for phase in plan if stream in phase[0]])


def within_round(moment, length):
    rounds = over(moment, length)
    return minus(moment, times(length, whole(rounds[0] // rounds[1])))


def going(plan, moment):
    length = round_of(plan)
    # Without phases there is no round to count by, and no stream ever goes.
    if length == NOUGHT:
        return ()
    left = within_round(moment, length)
    place = 0
    # A phase that lasts just as long as what is left is over: the moment is the next one's.
    while not less(left, plan[place][1]):
        left = minus(left, plan[place][1])
        place = place + 1
    return plan[place][0]


def from_green(plan, stream):
    for place, phase in enumerate(plan):
        if stream in phase[0]:
            return plan[place:] + plan[:place]
    return []


def longest_wait(plan, stream):
    # Begun with a green phase, the round cuts no wait in two.
    turned = from_green(plan, stream)
    if len(turned) == 0:
        return None
    longest = NOUGHT
    wait = NOUGHT
    for phase in turned:
        wait = NOUGHT if stream in phase[0] else plus(wait, phase[1])
        if less(longest, wait):
            longest = wait
    return longest


def check_wishes(crossing, wishes):
    if len(wishes) != crossing.size():
        raise BadWish("there must be one wish for each stream")
    for wish in wishes:
        if wish < 0:
            raise BadWish("a wish can't be below nought")


def serves(crossing, wishes, plan):
    check_wishes(crossing, wishes)
    # All groups are looked at first: a stream that isn't there is refused behind a clash too.
    allowed = [crossing.together(phase[0]) for phase in plan]
    if not all(allowed):
        return False
    for stream, wish in enumerate(wishes):
        if less(green(plan, stream), whole(wish)):
            return False
    return True

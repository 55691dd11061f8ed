"""Papers: weights of the streams that show how short a round can't be."""

from greenturns.parts import ONE, less, times, total, whole


def is_paper(crossing, weights):
    for group in crossing.groups():
        if less(ONE, total([weights[stream] for stream in group])):
            return False
    return True


def bound(weights, wishes):
    return total([times(weight, whole(wish)) for weight, wish in zip(weights, wishes)])

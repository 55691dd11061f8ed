"""Crossings: which streams clash, and which may go together."""

from greenturns.errors import BadClash, BadSize, NoStream

MOST_STREAMS = 6


# The words of the errors name no number: a very long one can't be turned into text.
def check_size(streams):
    if streams < 1 or streams > MOST_STREAMS:
        raise BadSize("a crossing has 1 to 6 streams")


def is_stream(streams, stream):
    return 0 <= stream and stream < streams


def check_clash(streams, pair):
    if not is_stream(streams, pair[0]) or not is_stream(streams, pair[1]):
        raise BadClash("a clash has a stream that isn't there")
    if pair[0] == pair[1]:
        raise BadClash("a stream can't clash with itself")


def rising(pair):
    return (min(pair[0], pair[1]), max(pair[0], pair[1]))


class Crossing:
    def __init__(self, streams, clashes):
        check_size(streams)
        for pair in clashes:
            check_clash(streams, pair)
        self.streams = streams
        self.pairs = sorted(set([rising(pair) for pair in clashes]))

    def size(self):
        return self.streams

    def clash(self, one, other):
        return not self.together((one, other))

    def together(self, group):
        # All streams are looked at first: one that isn't there is refused behind a clash too.
        for stream in group:
            if not is_stream(self.streams, stream):
                raise NoStream("there is no such stream")
        for pair in self.pairs:
            if pair[0] in group and pair[1] in group:
                return False
        return True

    def groups(self):
        found = [()]
        for stream in range(self.streams):
            grown = [group + (stream,) for group in found]
            found = found + [group for group in grown if self.together(group)]
        return found

    def can_grow(self, group):
        for stream in range(self.streams):
            if stream not in group and self.together(group + (stream,)):
                return True
        return False

    def full(self):
        return [group for group in sorted(self.groups()) if not self.can_grow(group)]

    def clashes(self):
        # A copy, so that what the asker does with it changes nothing here.
        return list(self.pairs)

"""Notes: crossings written as texts such as `3: 0-1 1-2`, and read again."""

from greenturns.crossing import Crossing
from greenturns.errors import BadNote, TurnError

FIGURES = "0123456"


def shown_pair(pair):
    one = pair[0]
    other = pair[1]
    return f" {one}-{other}"


def shown(crossing):
    pairs = [shown_pair(pair) for pair in crossing.clashes()]
    return str(crossing.size()) + ":" + "".join(pairs)


def figure_at(text, place):
    # What is no figure becomes -1, which no crossing takes; behind the text's end there seem to be noughts.
    return FIGURES.find(text[place:place + 1])


def guessed(text):
    # Where a text is right, each number in it is one sign, so each clash takes up four.
    pairs = [(figure_at(text, start + 1), figure_at(text, start + 3)) for start in range(2, len(text), 4)]
    streams = figure_at(text, 0)
    try:
        return Crossing(streams, pairs)
    except TurnError as error:
        raise BadNote("this is no crossing") from error


def read(text):
    crossing = guessed(text)
    # Just one text is right for a crossing: whatever else was overlooked shows here.
    if shown(crossing) != text:
        raise BadNote("a crossing is not written like this")
    return crossing

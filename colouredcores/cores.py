"""Cores, their sparks, the pieces between these, and what can be cut from pieces."""


def pieces_between(sparks, metres):
    lengths = []
    start = 0
    for spark in sparks:
        lengths.append(spark - start)
        start = spark + 1
    lengths.append(metres - start)
    return lengths


class Core:
    def __init__(self, colour, metres):
        self.colour = colour
        self.metres = metres
        self.sparks = []

    def spark_at(self, p):
        self.sparks = sorted(self.sparks + [p])

    def pieces(self):
        return pieces_between(self.sparks, self.metres)


def how_many(lengths, n):
    return sum([length // n for length in lengths])


def longest_cut(lengths, k):
    # The longer the fewer, so what lies between is halved: of enough metres there are
    # always k, of too_long never. That there are k of 1 metre is asked before.
    enough = 1
    too_long = max(lengths) + 1
    while too_long - enough > 1:
        middle = (enough + too_long) // 2
        if how_many(lengths, middle) >= k:
            enough = middle
        else:
            too_long = middle
    return enough

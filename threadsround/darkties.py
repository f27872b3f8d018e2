"""Layings of a manner, told by the ties of the dark web at their crossings with D.

The ties with D make pieces of the dark faces. For the manner "all" a piece is a tree with the middle in it, or closes
just one ring, which goes round; for "few" all is one piece, with at most one such ring; for "one" it is a tree.
However ties are picked for one of these, as long as each fits with those before it, there are as many in the end.
"""

from threadsround.distances import cut_of
from threadsround.webs import dark_web


def rings_let(pattern, manner):
    """How many rings all pieces together may have."""
    if manner == "all":
        return len(pattern)
    return 1 - cut_of(pattern) % 2 if manner == "few" else 0


class Pieces:
    """The pieces of a web, growing by ties."""

    def __init__(self, web, rings):
        places, firm, _ = web
        self._rings = rings
        self._names = list(range(len(places)))
        self._lags = [0] * len(places)
        # A piece is full by a firm place or by a ring.
        self._full = [position in firm for position in range(len(places))]

    def takes(self, tie):
        """Take the tie if it fits; whether it did."""
        one, other, shift = tie
        lag = self._lags[one] + shift - self._lags[other]
        mine, its = self._names[one], self._names[other]
        if mine == its:
            return self._closes(mine, lag)
        if self._full[mine] and self._full[its]:
            return False
        self._joins(mine, its, lag)
        return True

    def _closes(self, name, lag):
        """Close a ring in the piece with this name, if it may have one; a ring without lag does not go round."""
        if lag == 0 or self._rings == 0 or self._full[name]:
            return False
        self._rings -= 1
        self._full[name] = True
        return True

    def _joins(self, mine, its, lag):
        """Make one piece of two, the places of the latter moved on by lag."""
        for place, name in enumerate(list(self._names)):
            if name == its:
                self._names[place] = mine
                self._lags[place] = self._lags[place] + lag
        self._full[mine] = self._full[mine] or self._full[its]


class DarkTies:
    """The ties of a pattern's dark web, as a manner lets them have D together."""

    def __init__(self, pattern, manner):
        places, firm, ties = dark_web(pattern)
        self._web = (places, firm, ties)
        self._many = len(places) - (1 if manner == "one" else len(firm))
        self._rings = rings_let(pattern, manner)

    def picked(self, sequence):
        """The crossings of sequence that get D, each one if it fits with those that got it before."""
        pieces = Pieces(self._web, self._rings)
        dark = []
        for crossing in sequence:
            if pieces.takes(self._web[2][crossing]):
                dark.append(crossing)
        return dark

    def laid(self, sequence):
        """The laying with D at the crossings picked of sequence, which has all crossings."""
        dark = self.picked(sequence)
        return "".join(["D" if crossing in dark else "L" for crossing in range(len(sequence))])

    def can_begin(self, begin):
        """Whether some laying begins with these letters D and L."""
        dark = [crossing for crossing, letter in enumerate(begin) if letter == "D"]
        picked = self.picked(dark + list(range(len(begin), len(self._web[2]))))
        return picked[:len(dark)] == dark and len(picked) == self._many

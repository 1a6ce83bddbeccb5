"""Which tiles of a set may come beside the glues that face a place.

Here tiles are called by their ranks in the order of their names, and glues by numbers from 1 on; the number 0 stands
for no tile. So the least rank is the first tile in order, and places are looked at by integers alone, however deep the
labels are.
"""

SIDE_PAIRS = ((0, 1), (0, 2), (0, 3), (1, 2), (1, 3), (2, 3))


class Fits:
    """The tiles of a set by the glues on their sides; rows has the four glues of each tile, by rank."""

    def __init__(self, rows):
        self._numbers = {}
        self._strengths = [0]
        self._strong = [{} for _ in range(4)]
        self._weak = [{} for _ in SIDE_PAIRS]
        self._sides = [tuple([self._number_of(glue) for glue in glues]) for glues in rows]
        for rank, numbers in enumerate(self._sides):
            self._file_strong(rank, numbers)
            self._file_weak(rank, numbers)

    def _number_of(self, glue):
        if glue not in self._numbers:
            _, strength = glue
            self._numbers[glue] = len(self._strengths)
            self._strengths.append(strength)
        return self._numbers[glue]

    def _file_strong(self, rank, numbers):
        for side, number in enumerate(numbers):
            if self._strengths[number] == 2:
                self._strong[side].setdefault(number, []).append(rank)

    def _file_weak(self, rank, numbers):
        # One weak bond never suffices, so that weak glues are only looked up two by two.
        for index, (one, two) in enumerate(SIDE_PAIRS):
            pair = (numbers[one], numbers[two])
            if self._strengths[pair[0]] == 1 and self._strengths[pair[1]] == 1:
                self._weak[index].setdefault(pair, []).append(rank)

    def number_at(self, rank, side):
        """The number of the glue that a tile has on a side."""
        return self._sides[rank][side]

    def strengths(self, rank, facing):
        """The strengths, by side, of the bonds of a tile with the glues of these numbers."""
        numbers = self._sides[rank]
        return tuple([self._strengths[own] if own == met else 0 for own, met in zip(numbers, facing)])

    def _lots(self, facing):
        """Lists of ranks, each ascending, with all tiles that have bonds of two at least."""
        found = []
        weak = 0
        for side, number in enumerate(facing):
            if self._strengths[number] == 1:
                weak += 1
            elif number in self._strong[side]:
                found.append(self._strong[side][number])
        # Most places are faced by few tiles, so that pairs seldom need a look.
        if weak >= 2:
            for index, (one, two) in enumerate(SIDE_PAIRS):
                pair = (facing[one], facing[two])
                if pair in self._weak[index]:
                    found.append(self._weak[index][pair])
        return found

    def first(self, facing):
        """The least rank of a tile that has bonds of two at least beside these glues, or None."""
        return min([ranks[0] for ranks in self._lots(facing)], default=None)

    def every(self, facing):
        """The list of the ranks of all such tiles, ascending."""
        return sorted({rank for ranks in self._lots(facing) for rank in ranks})

"""The line with two ends, at each of which plates are put and taken."""

from platepiles.day import answers_of
from platepiles.pile import Pile, move_plates


class LineWithEnds:
    def __init__(self):
        self.left = Pile()
        self.right = Pile()

    def pile_at(self, side):
        return self.left if side == "left" else self.right

    def pile_across(self, side):
        return self.right if side == "left" else self.left

    def put(self, side, plate):
        self.pile_at(side).lay(plate)

    # The moves are given back beside the plate, since only a take makes any.
    def take(self, side):
        near = self.pile_at(side)
        moves = 0
        if near.height() == 0:
            moves = share(self.pile_across(side), near)
        return (near.lift(), moves)

    def answer(self, deed):
        if deed[0] == "take":
            return self.take(deed[1])
        self.put(deed[1], deed[2])
        return (None, 0)


# The plates that go over lie at the bottom of the full pile. Those above them wait on a spare pile and
# come back: they don't change their pile, so their way isn't counted.
def share(full, bare):
    spare = Pile()
    move_plates(full, spare, full.height() // 2)
    moves = move_plates(full, bare, full.height())
    move_plates(spare, full, spare.height())
    return moves


def answers_at_ends(deeds):
    return answers_of(LineWithEnds(), deeds)


def piles_at_ends(deeds):
    line = LineWithEnds()
    answers_of(line, deeds)
    return (line.left.from_bottom(), line.right.from_bottom())

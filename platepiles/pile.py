"""A pile of plates: what both kinds of line rest on.

Where a pile has no plate, None stands for the plate that is asked for: the lines tell None then.
"""


class Pile:
    def __init__(self):
        self.plates = []
        # At each plate's place: the least of that plate and all below it. So a lift
        # leaves the least of the plates that stay, and none of them is looked at again.
        self.leasts = []

    def height(self):
        return len(self.plates)

    def lay(self, plate):
        below = self.least()
        self.leasts.append(plate if below is None else min(below, plate))
        self.plates.append(plate)

    def lift(self):
        if self.height() == 0:
            return None
        self.leasts.pop()
        return self.plates.pop()

    def top(self):
        return None if self.height() == 0 else self.plates[-1]

    def bottom(self):
        return None if self.height() == 0 else self.plates[0]

    def least(self):
        return None if self.height() == 0 else self.leasts[-1]

    # A copy, so that whoever changes the told list doesn't change the pile.
    def from_bottom(self):
        return list(self.plates)


def pile_of(plates):
    pile = Pile()
    for plate in plates:
        pile.lay(plate)
    return pile


# The moves are given back, since the lines tell how many were made.
def move_plates(source, target, wanted):
    moves = 0
    while moves < wanted and source.height() > 0:
        target.lay(source.lift())
        moves += 1
    return moves

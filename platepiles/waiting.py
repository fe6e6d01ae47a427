"""The waiting line, in which the plate goes first that came first, and the windows that rest on it."""

from platepiles.day import answers_of
from platepiles.errors import NoWidth
from platepiles.pile import Pile, move_plates


class WaitingLine:
    def __init__(self):
        self.front = Pile()
        self.back = Pile()

    def length(self):
        return self.front.height() + self.back.height()

    def put(self, plate):
        self.back.lay(plate)

    # The moves are given back beside the plate, since only a take makes any.
    def take(self):
        moves = 0
        if self.front.height() == 0:
            moves = move_plates(self.back, self.front, self.back.height())
        return (self.front.lift(), moves)

    # Where the front pile has none, a take would turn the back pile over: its bottom plate goes first.
    def see(self):
        return self.back.bottom() if self.front.height() == 0 else self.front.top()

    def least(self):
        if self.front.height() == 0:
            return self.back.least()
        if self.back.height() == 0:
            return self.front.least()
        return min(self.front.least(), self.back.least())

    def answer(self, deed):
        if deed[0] == "take":
            return self.take()
        if deed[0] == "see":
            return (self.see(), 0)
        if deed[0] == "least":
            return (self.least(), 0)
        self.put(deed[1])
        return (None, 0)


def answers(deeds):
    return answers_of(WaitingLine(), deeds)


def piles_behind(deeds):
    line = WaitingLine()
    answers_of(line, deeds)
    return (line.front.from_bottom(), line.back.from_bottom())


# The window is a waiting line: a number comes in and the oldest goes out, so no window is looked through anew.
def least_of_windows(row, width):
    if width < 1:
        raise NoWidth("a window is at least one number wide")
    window = WaitingLine()
    found = []
    for number in row:
        if window.length() == width:
            window.take()
        window.put(number)
        if window.length() == width:
            found.append(window.least())
    return found

import itertools
import unittest

from platepiles.pile import Pile, move_plates, pile_of
from tests.days import SIXTY


def lift_all(pile):
    lifted = []
    while pile.height() > 0:
        lifted.append(pile.lift())
    return lifted


class EmptyPileTest(unittest.TestCase):
    def assert_empty(self, pile):
        self.assertEqual(pile.height(), 0)
        self.assertEqual(pile.from_bottom(), [])
        self.assertIsNone(pile.top())
        self.assertIsNone(pile.bottom())
        self.assertIsNone(pile.least())
        self.assertIsNone(pile.lift())
        self.assertEqual(pile.height(), 0)
        self.assertEqual(pile.from_bottom(), [])

    def test_new(self):
        self.assert_empty(Pile())

    def test_of_an_empty_list(self):
        self.assert_empty(pile_of([]))

    def test_after_the_last_plate_is_lifted(self):
        pile = pile_of([4])
        self.assertEqual(pile.lift(), 4)
        self.assert_empty(pile)

    def test_takes_plates_again_after_a_lift_of_none(self):
        pile = Pile()
        pile.lift()
        pile.lay(7)
        self.assertEqual(pile.from_bottom(), [7])
        self.assertEqual(pile.least(), 7)

    def test_piles_share_nothing(self):
        one, other = Pile(), Pile()
        one.lay(1)
        self.assert_empty(other)


class PlatesTest(unittest.TestCase):
    rows = (
        [5],
        [0],
        [3, 1, 2],
        [1, 2, 3],
        [3, 2, 1],
        [2, 2, 2],
        [-1, -1, 0, 0, 1, 1],
        [0, -0, -7, 7, -7],
        [SIXTY, -SIXTY, SIXTY, SIXTY - 1, -SIXTY],
        [10 ** 61, -(10 ** 61)],
        list(range(900)),
        list(range(900, 0, -1)),
    )

    def test_laid_last_is_lifted_first(self):
        for row in self.rows:
            with self.subTest(row=row[:6]):
                pile = Pile()
                for plate in row:
                    self.assertIsNone(pile.lay(plate))
                self.assertEqual(lift_all(pile), row[::-1])

    def test_told_from_bottom_to_top(self):
        for row in self.rows:
            with self.subTest(row=row[:6]):
                pile = pile_of(row)
                told = pile.from_bottom()
                self.assertIs(type(told), list)
                self.assertEqual(told, row)
                self.assertEqual(pile.height(), len(row))

    def test_looks_at_each_height(self):
        for row in self.rows:
            pile = pile_of(row)
            for height in range(len(row), 0, -1):
                with self.subTest(row=row[:6], height=height):
                    self.assertEqual(pile.top(), row[height - 1])
                    self.assertEqual(pile.bottom(), row[0])
                    self.assertEqual(pile.least(), min(row[:height]))
                    self.assertEqual(pile.height(), height)
                pile.lift()

    def test_lays_and_lifts_mixed_go_like_a_list(self):
        for steps in itertools.product((-1, 0, 1, None), repeat=6):
            pile, wanted = Pile(), []
            for step in steps:
                if step is None:
                    self.assertEqual(pile.lift(), wanted.pop() if wanted else None)
                else:
                    pile.lay(step)
                    wanted.append(step)
                self.assertEqual(pile.from_bottom(), wanted)
                self.assertEqual(pile.least(), min(wanted, default=None))


class NothingSharedTest(unittest.TestCase):
    def test_changing_the_told_list_leaves_the_pile(self):
        pile = pile_of([1, 2, 3])
        told = pile.from_bottom()
        told.append(-9)
        told[0] = -8
        self.assertEqual(pile.from_bottom(), [1, 2, 3])
        self.assertEqual(pile.least(), 1)
        pile.from_bottom().clear()
        self.assertEqual(lift_all(pile), [3, 2, 1])

    def test_changing_the_pile_leaves_the_told_list(self):
        pile = pile_of([1, 2, 3])
        told = pile.from_bottom()
        pile.lift()
        pile.lay(9)
        self.assertEqual(told, [1, 2, 3])

    def test_a_list_handed_in_stays_as_it_was(self):
        row = [3, -SIXTY, 3, 0]
        pile = pile_of(row)
        self.assertEqual(row, [3, -SIXTY, 3, 0])
        pile.lift()
        pile.lift()
        pile.lay(8)
        self.assertEqual(row, [3, -SIXTY, 3, 0])

    def test_changing_the_list_handed_in_leaves_the_pile(self):
        row = [1, 2]
        pile = pile_of(row)
        row.append(-3)
        row[0] = 5
        self.assertEqual(pile.from_bottom(), [1, 2])


class MovePlatesTest(unittest.TestCase):
    def move(self, source, target, wanted):
        first, second = pile_of(source), pile_of(target)
        moves = move_plates(first, second, wanted)
        return moves, first.from_bottom(), second.from_bottom()

    def test_all_one_by_one_from_top_to_top(self):
        self.assertEqual(self.move([1, 2, 3], [], 3), (3, [], [3, 2, 1]))

    def test_some_onto_others(self):
        self.assertEqual(self.move([1, 2, 3], [9, 8], 2), (2, [1], [9, 8, 3, 2]))

    def test_none_wanted(self):
        self.assertEqual(self.move([1, 2], [3], 0), (0, [1, 2], [3]))

    def test_more_wanted_than_there_are(self):
        self.assertEqual(self.move([1, 1], [], 5), (2, [], [1, 1]))

    def test_from_a_pile_without_a_plate(self):
        self.assertEqual(self.move([], [4], 1), (0, [], [4]))

    def test_a_plate_nought_is_moved_like_any(self):
        self.assertEqual(self.move([0, 0, -1], [], 3), (3, [], [-1, 0, 0]))

    def test_leasts_go_with_the_plates(self):
        source, target = pile_of([4, -2, 6]), pile_of([5])
        move_plates(source, target, 2)
        self.assertEqual(source.least(), 4)
        self.assertEqual(target.least(), -2)

"""tree and bin: the order, how deep, the labels."""

import unittest

from asking import GREATEST, ask, begin, bin_of, last, move, tree


class TreeAndBin(unittest.TestCase):
    def test_an_empty_one(self):
        self.assertEqual(ask(tree(0), bin_of(0)), [[0], [0]])
        self.assertEqual(ask(move(0, 2, 0), bin_of(0))[1], [0])
        self.assertEqual(ask(move(0, 2, 1), tree(0))[1], [0])

    def test_the_order_of_numbers_each_followed_by_all_within_it(self):
        for top, show in ((0, tree), (1, bin_of)):
            deeds = [
                move(0, 30, top, 1), move(0, 4, top, 2), move(0, 17, top, 3),
                move(0, 50, 4, 4), move(0, 9, 4, 5), move(0, 2, 30, 6), move(0, 63, 9, 7), move(0, 10, 9, 8)]
            self.assertEqual(last(*deeds, show(0)), [
                8,
                4, 1, 2, 9, 2, 5, 10, 3, 8, 63, 3, 7, 50, 2, 4,
                17, 1, 3,
                30, 1, 1, 2, 2, 6])

    def test_a_lesser_number_within_a_greater_one(self):
        deeds = [move(0, 5, 0), move(0, 2, 5), move(0, 3, 0)]
        self.assertEqual(last(*deeds, tree(0)), [3, 3, 1, 0, 5, 1, 0, 2, 2, 0])

    def test_all_within_goes_along(self):
        deeds = [move(0, 2, 0, 1), move(0, 3, 2, 2), move(0, 4, 3, 3), move(0, 5, 0, 4), move(0, 6, 5, 5)]
        self.assertEqual(
            last(*deeds, move(0, 3, 6, 9), tree(0)),
            [5, 2, 1, 1, 5, 1, 4, 6, 2, 5, 3, 3, 9, 4, 4, 3])
        asked = ask(*deeds, move(0, 2, 1, 9), tree(0), bin_of(0))
        self.assertEqual(asked[6:], [[2, 5, 1, 4, 6, 2, 5], [3, 2, 1, 9, 3, 2, 2, 4, 3, 3]])
        asked = ask(*deeds, move(0, 2, 1, 9), move(0, 3, 0, 8), tree(0), bin_of(0))
        self.assertEqual(asked[7:], [[4, 3, 1, 8, 4, 2, 3, 5, 1, 4, 6, 2, 5], [1, 2, 1, 9]])

    def test_how_deep_it_can_be(self):
        for top, show in ((0, tree), (1, bin_of)):
            chain = [move(0, 2, top, 2)] + [move(0, thing, thing - 1, thing) for thing in range(3, 64)]
            expected = [62]
            for thing in range(2, 64):
                expected += [thing, thing - 1, thing]
            self.assertEqual(last(*chain, show(0)), expected)

    def test_all_things_side_by_side(self):
        deeds = [move(0, thing, 0, 10 ** 9) for thing in range(63, 1, -1)]
        expected = [62]
        for thing in range(2, 64):
            expected += [thing, 1, 10 ** 9]
        self.assertEqual(last(*deeds, tree(0)), expected)

    def test_each_desk_has_its_own(self):
        asked = ask(begin(2), move(0, 2, 0, 4), move(1, 2, 1, 5), tree(0), bin_of(0), tree(1), bin_of(1))
        self.assertEqual(asked[3:], [[1, 2, 1, 4], [0], [0], [1, 2, 1, 5]])

    def test_no_such_desk(self):
        for desk in (8, 9, GREATEST):
            self.assertEqual(ask(begin(8), tree(desk), bin_of(desk)), [[0], [-2], [-2]])
        self.assertEqual(ask(begin(8), tree(7), bin_of(7)), [[0], [0], [0]])

"""same: the same deeds, the same tree."""

import itertools
import unittest

from asking import GREATEST, ask, begin, deeds_of, last, meet, move, same, some_calls, tell, tree


class Same(unittest.TestCase):
    def both_ways(self, *calls):
        asked = ask(*calls, same(0, 1), same(1, 0))
        self.assertEqual(asked[-1], asked[-2])
        return asked[-1]

    def test_two_desks_that_know_nothing(self):
        self.assertEqual(self.both_ways(begin(2)), [1, 1])

    def test_a_desk_with_itself(self):
        self.assertEqual(ask(same(0, 0), move(0, 2, 0), same(0, 0)), [[1, 1], [0, 1, 1], [1, 1]])
        self.assertEqual(ask(begin(8), move(7, 2, 9), same(7, 7))[2], [1, 1])

    def test_the_same_deeds_learned_in_different_orders(self):
        deeds = [move(2, 2, 0, 1), move(2, 3, 2, 2), move(2, 2, 1, 3), move(3, 4, 0, 4)]
        for order in itertools.permutations(range(4)):
            told = [tell(deed, 0) for deed in range(4)] + [tell(deed, 1) for deed in order]
            self.assertEqual(self.both_ways(begin(4), *deeds, *told), [1, 1])

    def test_after_a_meet(self):
        calls = [begin(2), move(0, 2, 0, 1), move(1, 2, 1, 2), move(1, 3, 2, 3)]
        self.assertEqual(self.both_ways(*calls), [0, 0])
        self.assertEqual(self.both_ways(*calls, meet(0, 1)), [1, 1])
        self.assertEqual(self.both_ways(*calls, meet(0, 1), move(0, 4, 0)), [0, 0])

    def test_the_same_tree_from_different_deeds(self):
        self.assertEqual(self.both_ways(begin(2), move(0, 2, 0, 5), move(1, 2, 0, 5)), [0, 1])
        self.assertEqual(self.both_ways(begin(2), move(0, 2, 1, 5), move(1, 2, 0, 4), move(1, 2, 1, 5)), [0, 1])

    def test_the_same_tree_made_in_another_order(self):
        calls = [begin(2), move(0, 2, 0, 5), move(0, 3, 0, 6), move(1, 3, 0, 6), move(1, 2, 0, 5)]
        self.assertEqual(self.both_ways(*calls), [0, 1])

    def test_a_deed_of_which_nothing_came(self):
        self.assertEqual(self.both_ways(begin(2), move(0, 2, 9)), [0, 1])
        self.assertEqual(self.both_ways(begin(2), move(0, 2, 9), move(1, 3, 9)), [0, 1])
        self.assertEqual(self.both_ways(begin(2), move(0, 2, 0), meet(0, 1), move(0, 2, 2, 8)), [0, 1])

    def test_trees_that_differ_in_a_label_alone(self):
        for top in (0, 1):
            self.assertEqual(self.both_ways(begin(2), move(0, 2, top, 5), move(1, 2, top, 6)), [0, 0])
        deep = [begin(2), move(0, 2, 0, 5), meet(0, 1), move(0, 3, 2, 5), move(1, 3, 2, 6)]
        self.assertEqual(self.both_ways(*deep), [0, 0])

    def test_trees_that_differ_in_a_place_alone(self):
        self.assertEqual(self.both_ways(begin(2), move(0, 2, 0, 5), move(1, 2, 1, 5)), [0, 0])
        calls = [begin(2), move(0, 2, 0, 5), move(0, 3, 0, 5), meet(0, 1)]
        self.assertEqual(self.both_ways(*calls, move(0, 4, 2, 5), move(1, 4, 3, 5)), [0, 0])
        self.assertEqual(self.both_ways(*calls, move(0, 4, 0, 5), move(1, 4, 1, 5)), [0, 0])

    def test_trees_that_differ_in_the_bin_alone(self):
        calls = [begin(2), move(0, 2, 0, 5), meet(0, 1), move(0, 3, 1, 5)]
        self.assertEqual(ask(*calls, tree(0), tree(1))[4:], [[1, 2, 1, 5]] * 2)
        self.assertEqual(self.both_ways(*calls), [0, 0])

    def test_one_knows_all_that_the_other_knows_and_more(self):
        self.assertEqual(self.both_ways(begin(2), move(0, 2, 0), move(0, 3, 0), tell(0, 1)), [0, 0])
        self.assertEqual(self.both_ways(begin(2), move(0, 2, 0), move(0, 2, 0), tell(1, 1)), [0, 1])

    def test_as_many_deeds_but_others(self):
        self.assertEqual(self.both_ways(begin(2), move(0, 2, 0), move(1, 3, 0)), [0, 0])
        self.assertEqual(self.both_ways(begin(3), move(2, 2, 0), move(2, 2, 0), tell(0, 0), tell(1, 1)), [0, 1])

    def test_the_same_deeds_never_make_another_tree(self):
        for seed in range(60):
            calls = some_calls(seed, 5, 12, 40, things=5)
            every = list(itertools.combinations_with_replacement(range(5), 2))
            asked = ask(*calls, *[deeds_of(desk) for desk in range(5)], *[same(*pair) for pair in every])
            known = [sorted(answer[1::2]) for answer in asked[len(calls):len(calls) + 5]]
            for pair, answer in zip(every, asked[len(calls) + 5:]):
                self.assertEqual(answer[0], int(known[pair[0]] == known[pair[1]]))
                self.assertIn(answer, ([0, 0], [0, 1], [1, 1]))

    def test_no_such_desk(self):
        self.assertEqual(last(begin(8), same(7, 0)), [1, 1])
        for desk in (8, 9, GREATEST):
            for call in (same(desk, 0), same(0, desk), same(desk, desk)):
                self.assertEqual(last(begin(8), call), [-2])

    def test_nothing_changes(self):
        asked = ask(begin(2), move(0, 2, 0, 5), same(0, 1), same(0, 2), deeds_of(0), deeds_of(1), meet(0, 1))
        self.assertEqual(asked[2:], [[0, 0], [-2], [1, 0, 1], [0], [1, 0, 1]])

"""meet: both know all that either knew."""

import unittest

from asking import GREATEST, ask, begin, last, meet, move, tell, tree


class Meet(unittest.TestCase):
    def test_what_each_learned(self):
        calls = [begin(3), move(0, 2, 0), move(0, 3, 0), move(0, 4, 0), move(1, 5, 0)]
        self.assertEqual(last(*calls, meet(0, 1)), [4, 1, 3])
        self.assertEqual(last(*calls, meet(1, 0)), [4, 3, 1])
        self.assertEqual(last(*calls, meet(0, 2)), [3, 0, 3])
        self.assertEqual(last(*calls, meet(2, 0)), [3, 3, 0])
        self.assertEqual(last(begin(2), meet(0, 1)), [0, 0, 0])

    def test_what_both_knew_is_not_learned(self):
        calls = [begin(2), move(0, 2, 0), move(0, 3, 0), tell(0, 1), move(1, 4, 0)]
        self.assertEqual(last(*calls, meet(0, 1)), [3, 1, 1])
        self.assertEqual(last(*calls, meet(1, 0), meet(0, 1)), [3, 0, 0])

    def test_both_have_the_same_tree_then(self):
        calls = [begin(2), move(0, 2, 0, 4), move(1, 2, 0, 5), move(0, 3, 2, 6), meet(0, 1)]
        for desk in (0, 1):
            self.assertEqual(last(*calls, tree(desk)), [2, 2, 1, 5, 3, 2, 6])

    def test_after_it_each_goes_its_own_way_again(self):
        asked = ask(begin(2), move(0, 2, 0, 4), meet(0, 1), move(0, 3, 0, 5), move(1, 4, 0, 6), tree(0), tree(1))
        self.assertEqual(asked[5:], [[2, 2, 1, 4, 3, 1, 5], [2, 2, 1, 4, 4, 1, 6]])

    def test_what_one_learned_goes_on_to_a_third(self):
        asked = ask(begin(3), move(0, 2, 0, 4), meet(0, 1), meet(2, 1), tree(2))
        self.assertEqual(asked[2:], [[1, 0, 1], [1, 1, 0], [1, 2, 1, 4]])

    def test_a_third_learns_nothing(self):
        self.assertEqual(last(begin(3), move(0, 2, 0, 4), meet(0, 1), tree(2)), [0])

    def test_a_desk_that_meets_itself(self):
        self.assertEqual(last(meet(0, 0)), [0, 0, 0])
        asked = ask(begin(2), move(1, 2, 0, 4), move(1, 3, 2, 5), meet(1, 1), tree(1), move(1, 4, 0))
        self.assertEqual(asked[3:], [[2, 0, 0], [2, 2, 1, 4, 3, 2, 5], [2, 3, 1]])

    def test_no_such_desk(self):
        self.assertEqual(last(begin(8), meet(7, 0)), [0, 0, 0])
        for desk in (8, 9, GREATEST):
            self.assertEqual(last(begin(8), meet(desk, 0)), [-2])
            self.assertEqual(last(begin(8), meet(0, desk)), [-2])
            self.assertEqual(last(begin(8), meet(desk, desk)), [-2])

    def test_a_refused_meet_leaves_all_as_it_was(self):
        asked = ask(begin(2), move(0, 2, 0, 4), meet(0, 2), meet(2, 0), tree(0), tree(1), meet(0, 1))
        self.assertEqual(asked[2:], [[-2], [-2], [1, 2, 1, 4], [0], [1, 0, 1]])

"""tell: one deed, told to one desk."""

import unittest

from asking import GREATEST, ask, begin, last, move, tell, tree


class Tell(unittest.TestCase):
    def test_a_deed_that_is_new(self):
        asked = ask(begin(2), move(0, 2, 0, 4), tell(0, 1), tree(1))
        self.assertEqual(asked[2:], [[1, 0], [1, 2, 1, 4]])

    def test_a_deed_that_it_knows(self):
        self.assertEqual(last(begin(2), move(0, 2, 0), move(0, 3, 0), tell(0, 0)), [2, 0])
        asked = ask(begin(2), move(0, 2, 0), move(0, 3, 0), tell(1, 1), tell(0, 1), tell(0, 1), tell(1, 1))
        self.assertEqual(asked[3:], [[1, 0], [2, 1], [2, 0], [2, 0]])

    def test_doubled_it_changes_nothing(self):
        asked = ask(begin(2), move(0, 2, 0, 4), move(0, 2, 0, 5), tell(1, 1), tell(0, 1), tell(0, 1), tree(1))
        self.assertEqual(asked[-1], [1, 2, 1, 5])

    def test_how_many_have_a_later_stamp(self):
        deeds = [move(0, thing, 0) for thing in (2, 3, 4, 5)]
        asked = ask(begin(2), *deeds, tell(3, 1), tell(0, 1), tell(2, 1), tell(1, 1))
        self.assertEqual(asked[5:], [[1, 0], [2, 1], [3, 1], [4, 2]])
        asked = ask(begin(2), *deeds, tell(0, 1), tell(1, 1), tell(2, 1), tell(3, 1))
        self.assertEqual(asked[5:], [[1, 0], [2, 0], [3, 0], [4, 0]])

    def test_the_same_count_at_two_desks(self):
        same = [begin(3), move(1, 2, 0, 4), move(0, 2, 0, 5)]
        self.assertEqual(ask(*same, tell(0, 0), tree(0))[3:], [[2, 0], [1, 2, 1, 4]])
        self.assertEqual(ask(*same, tell(1, 1), tree(1))[3:], [[2, 1], [1, 2, 1, 4]])
        self.assertEqual(ask(*same, tell(0, 2), tell(1, 2), tree(2))[3:], [[1, 0], [2, 1], [1, 2, 1, 4]])
        self.assertEqual(ask(*same, tell(1, 2), tell(0, 2), tree(2))[3:], [[1, 0], [2, 0], [1, 2, 1, 4]])

    def test_the_count_goes_before_the_desk(self):
        calls = [begin(3), move(2, 2, 0, 4), move(0, 3, 0), move(0, 2, 0, 5)]
        self.assertEqual(ask(*calls, tell(0, 0), tree(0))[4:], [[3, 1], [2, 2, 1, 5, 3, 1, 0]])
        self.assertEqual(ask(*calls, tell(2, 2), tree(2))[4:], [[2, 0], [1, 2, 1, 5]])

    def test_the_number_does_not_make_it_later(self):
        calls = [begin(2), move(0, 3, 0), move(0, 2, 0, 4), move(1, 2, 0, 5), tell(2, 0), tree(0)]
        self.assertEqual(ask(*calls)[4:], [[3, 1], [2, 2, 1, 4, 3, 1, 0]])

    def test_counts_of_two_figures(self):
        deeds = [move(0, 2, 0, label) for label in range(12)]
        self.assertEqual(ask(begin(2), *deeds, tell(9, 1), tell(1, 1), tree(1))[13:], [[1, 0], [2, 1], [1, 2, 1, 9]])

    def test_a_deed_that_only_another_listener_knows(self):
        asked = ask(begin(3), move(0, 2, 0, 4), tell(0, 1), tell(0, 2), tree(2))
        self.assertEqual(asked[2:], [[1, 0], [1, 0], [1, 2, 1, 4]])

    def test_no_such_deed(self):
        self.assertEqual(last(tell(0, 0)), [-2])
        for deed in (1, 2, 100, GREATEST):
            self.assertEqual(last(move(0, 2, 0), tell(deed, 0)), [-2])
        self.assertEqual(last(*[move(0, 2, 0)] * 100, tell(99, 0)), [100, 0])
        self.assertEqual(last(*[move(0, 2, 0)] * 100, tell(100, 0)), [-2])

    def test_no_such_desk(self):
        for desk in (1, 2, GREATEST):
            self.assertEqual(last(move(0, 2, 0), tell(0, desk)), [-2])
        self.assertEqual(last(begin(8), move(0, 2, 0), tell(0, 7)), [1, 0])
        self.assertEqual(last(begin(8), move(0, 2, 0), tell(0, 8)), [-2])
        self.assertEqual(last(move(0, 2, 0), tell(1, 1)), [-2])

    def test_deed_first_then_desk(self):
        calls = [begin(2), move(0, 2, 0), move(0, 3, 0), move(0, 4, 0)]
        self.assertEqual(last(*calls, tell(2, 1)), [1, 0])
        self.assertEqual(last(*calls, tell(1, 2)), [-2])

    def test_a_refused_tell_leaves_all_as_it_was(self):
        asked = ask(begin(2), move(0, 2, 0, 4), tell(1, 1), tell(0, 2), tree(0), tree(1), tell(0, 1))
        self.assertEqual(asked[2:], [[-2], [-2], [1, 2, 1, 4], [0], [1, 0]])

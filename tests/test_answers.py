"""The one list in, the one list out; and long lists beside a second writing of the document."""

import unittest

from asking import ask, begin, bin_of, joined, meet, move, some_calls, tell, tree
from manyhandsheet.house import answers
from model import model_answers


class TheList(unittest.TestCase):
    def test_how_many_and_then_these(self):
        self.assertEqual(answers([5, 0]), [1, 0])
        self.assertEqual(answers([1, 0]), [1, -1])
        self.assertEqual(
            answers([1, 2, 2, 0, 2, 0, 7, 3, 0, 1, 4, 0, 1, 5, 1, 6, 1, 5, 2]),
            [1, 0, 3, 0, 1, 1, 2, 1, 0, 3, 1, 0, 0, 4, 1, 2, 1, 7, 1, 0, 1, -2])

    def test_it_is_a_list_of_whole_numbers(self):
        answered = answers(joined(some_calls(3, 4, 30, 60)))
        self.assertIs(type(answered), list)
        self.assertTrue(all(type(number) is int for number in answered))

    def test_what_is_handed_in_is_not_changed(self):
        calls = joined(some_calls(5, 8, 80, 60))
        copied = list(calls)
        answers(calls)
        self.assertEqual(calls, copied)

    def test_nothing_is_kept(self):
        calls = joined([begin(3), move(0, 2, 0, 4), move(2, 3, 1, 5), meet(0, 2), tree(0), bin_of(0), tell(1, 1)])
        first = answers(calls)
        self.assertEqual(answers([5, 0, 6, 0, 5, 1, 3, 0, 0]), [1, 0, 1, 0, 1, -2, 1, -2])
        self.assertEqual(answers(calls), first)

    def test_what_was_given_back_is_the_callers(self):
        calls = joined([move(0, 2, 0, 4), tree(0)])
        first = answers(calls)
        kept = list(first)
        first.clear()
        self.assertEqual(answers(calls), kept)

    def test_one_call_more_does_not_change_the_answers_before(self):
        calls = some_calls(11, 5, 30, 40)
        whole = ask(*calls)
        for size in range(1, len(calls)):
            self.assertEqual(ask(*calls[:size]), whole[:size])


class LongLists(unittest.TestCase):
    def check(self, calls):
        self.assertEqual(ask(*calls), model_answers(calls))

    def test_200_calls_100_deeds_8_desks(self):
        for seed in range(10):
            for things in (5, 12, 64):
                calls = some_calls(seed, 8, 100, 99, things)
                self.assertEqual(len(calls), 200)
                self.assertLessEqual(len(joined(calls)), 1000)
                self.check(calls)

    def test_all_meet_at_the_end(self):
        for seed in range(10):
            calls = some_calls(seed, 8, 100, 69, 20)
            calls += [meet(0, desk) for desk in range(1, 8)] + [meet(0, desk) for desk in range(1, 7)]
            calls += [tree(desk) for desk in range(8)] + [bin_of(desk) for desk in range(8)] + [move(7, 2, 0)]
            self.assertEqual(len(calls), 200)
            asked = ask(*calls)
            self.assertEqual(asked, model_answers(calls))
            self.assertEqual(asked[-17:-9], [asked[-17]] * 8)
            self.assertEqual(asked[-9:-1], [asked[-9]] * 8)
            self.assertEqual(asked[-1], [-5])

    def test_many_short_ones(self):
        for seed in range(300):
            self.check(some_calls(seed, 1 + seed % 8, 15, 25, 4 + seed % 5))

"""The one list in, the one list out; and long lists beside a second writing of the document."""

import contextlib
import io
import unittest

from asking import (
    ask, begin, bin_of, deeds_of, joined, line, meet, move, moves, same, some_calls, tell, tree, with_wrong_numbers,
    would)
from manyhandsheet.house import answers
from model import model_answers

ALL_ELEVEN = [
    begin(2), move(0, 2, 0, 7), tell(0, 1), meet(0, 1), tree(1), bin_of(1), line(1, 2), deeds_of(1), same(0, 1),
    would(0, 2, 2), moves(1, 2)]


def refuse(*numbers, **named):
    raise AssertionError("what is handed in is changed")


class Held(list):
    """A list that says so as soon as it is to be changed."""
    append = extend = insert = pop = remove = clear = reverse = sort = refuse
    __setitem__ = __delitem__ = __iadd__ = __imul__ = refuse


class TheList(unittest.TestCase):
    def test_how_many_and_then_these(self):
        self.assertEqual(answers([5, 0]), [1, 0])
        self.assertEqual(answers([1, 0]), [1, -1])
        self.assertEqual(
            answers([1, 2, 2, 0, 2, 0, 7, 3, 0, 1, 4, 0, 1, 5, 1, 6, 1, 5, 2]),
            [1, 0, 3, 0, 1, 1, 2, 1, 0, 3, 1, 0, 0, 4, 1, 2, 1, 7, 1, 0, 1, -2])

    def test_all_eleven_calls(self):
        self.assertEqual(
            joined(ALL_ELEVEN),
            [1, 2, 2, 0, 2, 0, 7, 3, 0, 1, 4, 0, 1, 5, 1, 6, 1, 7, 1, 2, 8, 1, 9, 0, 1, 10, 0, 2, 2, 11, 1, 2])
        self.assertEqual(answers(joined(ALL_ELEVEN)), [
            1, 0, 3, 0, 1, 1, 2, 1, 0, 3, 1, 0, 0, 4, 1, 2, 1, 7, 1, 0,
            3, 2, 2, 0, 3, 1, 0, 1, 2, 1, 1, 1, 3, 2, 1, 0])
        self.assertEqual(
            answers([7, 0, 2, 7, 1, 0, 8, 1, 9, 0, 1, 10, 0, 1, 0, 10, 1, 1, 0, 11, 1, 64]),
            [1, -3, 1, -2, 1, -2, 1, -2, 1, -1, 1, -2, 1, -2])

    def test_it_is_a_list_of_whole_numbers(self):
        answered = answers(joined(some_calls(3, 4, 30, 60)))
        self.assertIs(type(answered), list)
        self.assertTrue(all(type(number) is int for number in answered))

    def test_what_is_handed_in_is_not_changed(self):
        calls = joined(some_calls(5, 8, 80, 60))
        copied = list(calls)
        answers(calls)
        self.assertEqual(calls, copied)

    def test_it_is_not_changed_for_a_while_either(self):
        for calls in (joined(ALL_ELEVEN), joined(some_calls(5, 8, 80, 60))):
            self.assertEqual(answers(Held(calls)), answers(calls))

    def test_a_second_time_it_gives_back_the_same(self):
        for seed in range(20):
            calls = joined(some_calls(seed, 8, 60, 100))
            first = answers(calls)
            answers(joined(some_calls(seed + 1, 8, 60, 100)))
            self.assertEqual(answers(calls), first)

    def test_it_prints_nothing(self):
        out = io.StringIO()
        with contextlib.redirect_stdout(out), contextlib.redirect_stderr(out):
            answers(joined(ALL_ELEVEN))
            answers(joined(some_calls(5, 8, 80, 60)))
        self.assertEqual(out.getvalue(), "")

    def test_nothing_is_kept(self):
        calls = joined([begin(3), move(0, 2, 0, 4), move(2, 3, 1, 5), meet(0, 2), tree(0), bin_of(0), tell(1, 1)])
        first = answers(calls)
        self.assertEqual(answers([5, 0, 6, 0, 5, 1, 3, 0, 0]), [1, 0, 1, 0, 1, -2, 1, -2])
        self.assertEqual(answers(calls), first)

    def test_what_was_given_back_is_the_callers(self):
        calls = joined([move(0, 2, 0, 4), tree(0)])
        first = answers(calls)
        kept = list(first)
        first.clear()
        self.assertEqual(answers(calls), kept)

    def test_one_call_more_does_not_change_the_answers_before(self):
        calls = some_calls(11, 5, 30, 40)
        whole = ask(*calls)
        for size in range(1, len(calls)):
            self.assertEqual(ask(*calls[:size]), whole[:size])


class LongLists(unittest.TestCase):
    def check(self, calls):
        # Call by call, because unittest takes minutes to tell two long lists apart.
        for call, given, expected in zip(calls, ask(*calls), model_answers(calls), strict=True):
            if given != expected:
                self.fail(f"{call} answered {given}, not {expected}")

    def test_200_calls_100_deeds_8_desks(self):
        for seed in range(10):
            for things in (5, 12, 64):
                calls = some_calls(seed, 8, 100, 99, things)
                self.assertEqual(len(calls), 200)
                self.assertLessEqual(len(joined(calls)), 1000)
                self.check(calls)

    def test_all_meet_at_the_end(self):
        for seed in range(10):
            calls = some_calls(seed, 8, 100, 69, 20)
            calls += [meet(0, desk) for desk in range(1, 8)] + [meet(0, desk) for desk in range(1, 7)]
            calls += [tree(desk) for desk in range(8)] + [bin_of(desk) for desk in range(8)] + [move(7, 2, 0)]
            self.assertEqual(len(calls), 200)
            self.check(calls)
            asked = ask(*calls)
            self.assertEqual(asked[-17:-9], [asked[-17]] * 8)
            self.assertEqual(asked[-9:-1], [asked[-9]] * 8)
            self.assertEqual(asked[-1], [-5])

    def test_many_short_ones(self):
        for seed in range(300):
            self.check(some_calls(seed, 1 + seed % 8, 15, 25, 4 + seed % 5))

    def test_every_call_is_among_them(self):
        called = {call[0] for seed in range(3) for call in some_calls(seed, 8, 100, 99)}
        self.assertEqual(called, set(range(1, 12)))

    def test_wrong_numbers_and_begins_among_them(self):
        refused = set()
        for seed in range(60):
            calls = with_wrong_numbers(seed, some_calls(seed, 1 + seed % 8, 100, 99, (5, 12, 64)[seed % 3]))
            self.check(calls)
            refused |= {(call[0], answer[0]) for call, answer in zip(calls, ask(*calls)) if answer[0] < 0}
        self.assertEqual(refused, {
            (1, -1), (2, -1), (2, -2), (3, -2), (4, -2), (5, -2), (6, -2), (7, -2), (7, -3), (8, -2), (9, -2),
            (10, -1), (10, -2), (11, -2)})

    def test_1000_numbers(self):
        calls = [move(0, 2 + number % 62, number * 7 % 64, number) for number in range(200)]
        self.assertEqual(len(joined(calls)), 1000)
        self.check(calls)
        calls = some_calls(4, 8, 100, 0) + [would(number % 8, 2 + number % 62, number % 64) for number in range(99)]
        self.assertEqual((len(calls), len(joined(calls))), (200, 898))
        self.check(calls)

    def test_the_longest_answers(self):
        chain = [begin(8), move(0, 2, 1, 10 ** 9)]
        chain += [move(0, thing, thing - 1, 10 ** 9) for thing in range(3, 64)]
        chain += [move(0, 2, 1)] * 38 + [meet(0, 7)]
        for asked in (line(7, 63), deeds_of(7), moves(7, 2), bin_of(7), same(0, 7)):
            calls = chain + [asked] * 98
            self.assertEqual(len(calls), 200)
            self.check(calls)

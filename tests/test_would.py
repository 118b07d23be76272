"""would: what would come of a deed that is not done."""

import unittest

from asking import GREATEST, ask, begin, bin_of, deeds_of, last, meet, move, moves, some_calls, tell, tree, would

CHAIN = [move(0, 2, 0, 7), move(0, 3, 2, 8), move(0, 4, 3, 9)]
FULL = [move(0, 2, 0)] * 100


class WhatWouldCome(unittest.TestCase):
    def test_1(self):
        self.assertEqual(ask(would(0, 2, 0), would(0, 63, 1)), [[1], [1]])
        asked = ask(*CHAIN, would(0, 5, 4), would(0, 4, 2), would(0, 4, 3), would(0, 2, 1), would(0, 2, 0))
        self.assertEqual(asked[3:], [[1]] * 5)

    def test_2(self):
        self.assertEqual(ask(would(0, 2, 3), would(0, 2, 2), would(0, 63, 63)), [[2]] * 3)
        self.assertEqual(ask(*CHAIN, would(0, 2, 5), would(0, 5, 5), would(0, 5, 63))[3:], [[2]] * 3)

    def test_3(self):
        asked = ask(*CHAIN, would(0, 2, 2), would(0, 2, 3), would(0, 2, 4), would(0, 3, 4), would(0, 4, 4))
        self.assertEqual(asked[3:], [[3]] * 5)
        chain = [move(0, 2, 1)] + [move(0, thing, thing - 1) for thing in range(3, 64)]
        self.assertEqual(ask(*chain, would(0, 2, 63), would(0, 63, 2))[62:], [[3], [1]])

    def test_at_this_desk(self):
        calls = [begin(2), move(0, 2, 0), move(0, 3, 2)]
        asked = ask(*calls, would(0, 2, 3), would(1, 2, 3), would(0, 4, 2), would(1, 4, 2))
        self.assertEqual(asked[3:], [[3], [2], [1], [2]])

    def test_now(self):
        asked = ask(begin(2), move(0, 2, 0), would(1, 3, 2), tell(0, 1), would(1, 3, 2))
        self.assertEqual(asked[2:], [[2], [1, 0], [1]])
        asked = ask(*CHAIN, would(0, 2, 4), move(0, 4, 0), would(0, 2, 4))
        self.assertEqual(asked[3:], [[3], [3, 4, 1], [1]])

    def test_it_would_be_the_last_by_stamps(self):
        calls = [begin(2), move(1, 2, 0), move(1, 3, 0), move(1, 3, 2), move(0, 9, 0), meet(0, 1)]
        self.assertEqual(ask(*calls, would(0, 2, 3), would(0, 3, 2), would(1, 9, 3))[6:], [[3], [1], [1]])

    def test_as_a_move_then_done_there(self):
        seen = set()
        for seed in range(60):
            calls = some_calls(seed, 3, 25, 40, things=7)
            for desk in range(3):
                for thing in (2, 4, 6):
                    for under in range(8):
                        asked = ask(*calls, would(desk, thing, under), move(desk, thing, under))
                        self.assertEqual(asked[-2], asked[-1][2:])
                        seen.add(asked[-2][0])
        self.assertEqual(seen, {1, 2, 3})


class NothingHasChanged(unittest.TestCase):
    def test_no_deed_more(self):
        asked = ask(*CHAIN, would(0, 5, 0), would(0, 2, 1), would(0, 2, 9), would(0, 2, 4), deeds_of(0), tell(3, 0))
        self.assertEqual(asked[7:], [[3, 0, 1, 1, 1, 2, 1], [-2]])

    def test_the_next_deed_as_if_it_had_not_been_asked(self):
        asked = ask(would(0, 2, 0), would(0, 2, 0), move(0, 3, 2), would(0, 2, 0), move(0, 2, 0))
        self.assertEqual(asked, [[1], [1], [0, 1, 2], [1], [1, 2, 1]])

    def test_the_tree_stays(self):
        asked = ask(
            *CHAIN, would(0, 3, 1), would(0, 5, 0), would(0, 4, 0),
            tree(0), bin_of(0), moves(0, 3), moves(0, 5))
        self.assertEqual(asked[6:], [[3, 2, 1, 7, 3, 2, 8, 4, 3, 9], [0], [1, 1], [0]])

    def test_asked_among_many_calls(self):
        for seed in range(20):
            calls = some_calls(seed, 4, 30, 50, things=7)
            among = []
            for number, call in enumerate(calls):
                among += [call, would(number % 4, 2 + number % 6, number % 5)]
            self.assertEqual(ask(*among)[::2], ask(*calls))


class Refusals(unittest.TestCase):
    def test_no_such_desk(self):
        self.assertEqual(last(begin(8), would(7, 2, 0)), [1])
        for desk in (8, 9, GREATEST):
            self.assertEqual(last(begin(8), would(desk, 2, 0)), [-2])

    def test_things(self):
        for thing in (2, 3, 62, 63):
            self.assertEqual(last(would(0, thing, 0)), [1])
        for thing in (0, 1, 64, 65, 2 ** 63, GREATEST):
            self.assertEqual(last(would(0, thing, 0)), [-1])

    def test_what_it_is_put_under(self):
        self.assertEqual(ask(would(0, 2, 63), would(0, 2, 62)), [[2], [2]])
        self.assertEqual(last(move(0, 63, 0), would(0, 2, 63)), [1])
        for under in (64, 65, 2 ** 63, GREATEST):
            self.assertEqual(last(would(0, 2, under)), [-1])

    def test_a_refusal_goes_before_what_would_come(self):
        asked = ask(would(0, 0, 0), would(0, 1, 1), would(0, 1, 9), would(0, 64, 9), would(0, 64, 64))
        self.assertEqual(asked, [[-1]] * 5)

    def test_which_of_several_is_told(self):
        for thing, under in ((0, 0), (1, 0), (64, 0), (2, 64), (GREATEST, GREATEST)):
            self.assertEqual(ask(would(0, thing, under), would(1, thing, under)), [[-1], [-2]])

    def test_after_100_deeds(self):
        asked = ask(
            *FULL, move(0, 3, 0),
            would(0, 3, 2), would(0, 3, 4), would(0, 2, 2), would(0, 0, 0), would(1, 3, 2))
        self.assertEqual(asked[100:], [[-5], [1], [2], [3], [-1], [-2]])
        self.assertEqual(ask(*FULL, would(0, 3, 2), deeds_of(0), move(0, 3, 2))[101:], [[100, *self.all_put()], [-5]])

    def all_put(self):
        return [number for deed in range(100) for number in (deed, 1)]

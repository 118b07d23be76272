"""Points 1 to 4 of the document's promises, as the calls show them."""

import itertools
import unittest

from asking import (
    ask, begin, bin_of, deeds_of, last, line, meet, move, moves, pairs, rows, same, some_calls, tell, tree)


class SameDeedsSameTree(unittest.TestCase):
    def test_told_in_every_order(self):
        deeds = [move(0, 2, 0, 1), move(0, 3, 2, 2), move(1, 3, 0, 3), move(1, 2, 3, 4), move(2, 2, 1, 5)]
        for order in itertools.permutations(range(5)):
            calls = [begin(4), *deeds, *[tell(deed, 3) for deed in order]]
            seen = ask(*calls, tree(3), bin_of(3), deeds_of(3))[-3:]
            # By stamps: 0 (1, 0), 2 (1, 1), 4 (1, 2), 1 (2, 0), 3 (2, 1).
            self.assertEqual(seen, [[0], [2, 2, 1, 5, 3, 2, 2], [5, 0, 1, 2, 1, 4, 1, 1, 1, 3, 3]], order)

    def test_told_forwards_backwards_doubled_or_by_meeting(self):
        for seed in range(40):
            calls = some_calls(seed, 6, 40, 20)
            told = range(40)
            ways = [
                [tell(deed, 6) for deed in told],
                [tell(deed, 6) for deed in reversed(told)],
                [tell(deed * 7 % 40, 6) for deed in told],
                [tell(deed * 11 % 40, 6) for deed in range(60)],
                [meet(6, desk) for desk in range(6)],
                [meet(desk, 6) for desk in reversed(range(6))],
            ]
            calls[0] = begin(7)
            shown = [tree(6), bin_of(6), deeds_of(6), *[moves(6, thing) for thing in range(12)]]
            seen = [ask(*calls, *way, *shown)[-len(shown):] for way in ways]
            self.assertTrue(all(one == seen[0] for one in seen), seed)

    def test_whoever_has_met_all_has_the_same(self):
        for seed in range(20):
            calls = some_calls(seed, 5, 40, 40, things=9)
            calls += [meet(0, desk) for desk in (1, 2, 3, 4)] + [meet(desk, 0) for desk in (1, 2, 3, 4)]
            for shown in (tree, bin_of, deeds_of):
                asked = ask(*calls, *[shown(desk) for desk in range(5)])
                self.assertTrue(all(answer == asked[-1] for answer in asked[-5:]), seed)
            asked = ask(*calls, *[same(desk, other) for desk in range(5) for other in range(5)])
            self.assertEqual(asked[-25:], [[1, 1]] * 25)

    def test_a_and_b_put_under_one_another(self):
        calls = [
            begin(2), move(0, 2, 0, 1), move(0, 3, 0, 2), meet(0, 1),
            move(0, 2, 3, 3), move(1, 3, 2, 4), meet(0, 1)]
        asked = ask(*calls, tree(0), tree(1), bin_of(0), bin_of(1))
        self.assertEqual(asked[4:], [
            [2, 3, 1], [3, 3, 1], [4, 1, 1],
            [2, 3, 1, 2, 2, 2, 3], [2, 3, 1, 2, 2, 2, 3], [0], [0]])

    def test_a_circle_of_three(self):
        calls = [begin(3), move(0, 2, 0), move(0, 3, 0), move(0, 4, 0), meet(0, 1), meet(0, 2)]
        calls += [move(2, 4, 2), move(1, 3, 4), move(0, 2, 3), meet(0, 1), meet(1, 2), meet(0, 2)]
        for desk in range(3):
            self.assertEqual(last(*calls, tree(desk)), [3, 4, 1, 0, 3, 2, 0, 2, 3, 0])


class AlwaysATree(unittest.TestCase):
    def test_each_thing_is_in_one_place(self):
        for seed in range(40):
            calls = some_calls(seed, 4, 50, 30, things=8)
            for desk in range(4):
                asked = ask(*calls, tree(desk), bin_of(desk))
                found = rows(asked[-2]) + rows(asked[-1])
                things = [row[0] for row in found]
                self.assertEqual(len(things), len(set(things)))
                self.assertTrue(all(2 <= thing <= 63 for thing in things))
                self.check_depths(rows(asked[-2]))
                self.check_depths(rows(asked[-1]))

    def check_depths(self, found):
        before = 0
        for row in found:
            self.assertTrue(1 <= row[1] <= before + 1)
            before = row[1]

    def test_each_line_ends_at_the_root_or_the_bin(self):
        for seed in range(40):
            calls = some_calls(seed, 4, 50, 30, things=8)
            for desk in range(4):
                asked = ask(*calls, tree(desk), bin_of(desk), *[line(desk, thing) for thing in range(64)])
                tops = {thing: top for top in (0, 1) for thing, _, _ in rows(asked[top - 66])}
                depths = {thing: deep for top in (0, 1) for thing, deep, _ in rows(asked[top - 66])}
                for thing in range(2, 64):
                    above = asked[thing - 64]
                    if thing not in tops:
                        self.assertEqual(above, [-3])
                        continue
                    self.assertEqual((above[1], above[-1]), (thing, tops[thing]))
                    self.assertEqual(above[0], len(above) - 1)
                    self.assertEqual(above[0], depths[thing] + 1)
                    self.assertEqual(len(set(above[1:])), above[0])

    def test_what_is_there_stays_there(self):
        for seed in range(20):
            calls = [begin(1)] + some_calls(seed, 1, 60, 0)[1:]
            there = set()
            for number in range(1, len(calls)):
                asked = ask(*calls[:number + 1], tree(0), bin_of(0))
                if asked[-3][2] == 1:
                    there.add(calls[number][2])
                self.assertEqual({row[0] for row in rows(asked[-2]) + rows(asked[-1])}, there)


class LastDeedByStamps(unittest.TestCase):
    def test_the_last_by_stamp_not_by_arrival(self):
        calls = [begin(2), move(0, 2, 0, 1), move(0, 2, 1, 2), tell(1, 1), tell(0, 1)]
        self.assertEqual(ask(*calls, tree(1), bin_of(1))[-2:], [[0], [1, 2, 1, 2]])

    def test_the_same_count_the_greater_desk_is_last(self):
        for first, second in ((0, 1), (1, 0)):
            calls = [begin(2), move(first, 2, 0, first), move(second, 2, 0, second), meet(first, second)]
            self.assertEqual(ask(*calls, tree(0), tree(1))[-2:], [[1, 2, 1, 1], [1, 2, 1, 1]])

    def test_deeds_of_which_nothing_came_do_not_move_it(self):
        calls = [move(0, 2, 0, 1), move(0, 3, 2, 2), move(0, 2, 3, 3), move(0, 2, 9, 4)]
        self.assertEqual(last(*calls, tree(0)), [2, 2, 1, 1, 3, 2, 2])


    def test_line_tree_and_bin_say_what_the_last_of_its_moves_says(self):
        for seed in range(40):
            calls = some_calls(seed, 3, 40, 30, things=10)
            done = [call for call in calls if call[0] == 2]
            for desk in range(3):
                shown = [tree(desk), bin_of(desk)]
                for thing in range(2, 64):
                    shown += [line(desk, thing), moves(desk, thing)]
                asked = ask(*calls, *shown)[len(calls):]
                places = {**self.places(rows(asked[0]), 0), **self.places(rows(asked[1]), 1)}
                for thing in range(2, 64):
                    above, put = asked[2 * thing - 2:2 * thing]
                    if thing not in places:
                        self.assertEqual((above, put), ([-3], [0]))
                        continue
                    under, label = done[put[-1]][3:]
                    self.assertEqual(done[put[-1]][2], thing)
                    self.assertEqual(places[thing], (under, label))
                    self.assertEqual(above[2], under)

    def places(self, found, top):
        """What each thing is under, and its label, read off the rows of tree or bin."""
        place = {}
        path = [top]
        for thing, deep, label in found:
            path[deep:] = [thing]
            place[thing] = (path[deep - 1], label)
        return place


class OnceAnEarlierDeedIsKnown(unittest.TestCase):
    def test_all_that_can_come_of_a_deed_changes(self):
        changes = set()
        for seed in range(80):
            calls = some_calls(seed, 3, 20, 20, things=5)
            before = dict(pairs(last(*calls, deeds_of(0))))
            for deed in range(20):
                told = ask(*calls, tell(deed, 0), deeds_of(0))
                after = dict(pairs(told[-1]))
                changed = [(before[known], after[known]) for known in before if before[known] != after[known]]
                changes.update(changed)
                # Only a deed that was not known, with others behind it, can change what came of these.
                self.assertLessEqual(len(changed), told[-2][1])
        # A thing that is there stays there, whatever earlier deed becomes known.
        self.assertEqual(changes, {(2, 1), (2, 3), (3, 1), (1, 3)})

    def test_what_was_not_there_is_there_then(self):
        calls = [begin(2), move(0, 2, 0, 1), move(1, 3, 2, 2)]
        self.assertEqual(ask(*calls, tree(1))[2:], [[1, 1, 2], [0]])
        self.assertEqual(ask(*calls, tell(0, 1), tree(1))[3:], [[2, 1], [2, 2, 1, 1, 3, 2, 2]])

    def test_a_later_deed_does_not_help(self):
        calls = [begin(2), move(0, 3, 2, 2), move(1, 2, 0, 1), tell(1, 0), tree(0)]
        self.assertEqual(ask(*calls)[3:], [[2, 0], [1, 2, 1, 1]])

    def test_a_chain_of_deeds_comes_alive(self):
        chain = [move(1, 3, 2, 3), move(1, 4, 3, 4), move(1, 5, 4, 5)]
        asked = ask(begin(2), move(0, 2, 1, 2), *chain, bin_of(1), tell(0, 1), bin_of(1))
        self.assertEqual(asked[2:], [
            [1, 1, 2], [2, 2, 2], [3, 3, 2], [0], [4, 3],
            [4, 2, 1, 2, 3, 2, 3, 4, 3, 4, 5, 4, 5]])

    def test_what_was_a_circle_is_none_then(self):
        calls = [
            begin(2), move(1, 2, 0, 1), move(1, 3, 2, 2), meet(0, 1),
            move(0, 3, 0, 3), move(1, 2, 3, 4)]
        self.assertEqual(ask(*calls, tree(1))[5:], [[3, 3, 3], [2, 2, 1, 1, 3, 2, 2]])
        self.assertEqual(ask(*calls, tell(2, 1), tree(1))[6:], [[4, 1], [2, 3, 1, 3, 2, 2, 4]])

    def test_what_was_done_is_a_circle_then(self):
        calls = [
            begin(2), move(1, 2, 0, 1), move(1, 3, 0, 2), meet(0, 1),
            move(0, 3, 2, 3), move(1, 2, 3, 4)]
        self.assertEqual(ask(*calls, tree(1))[5:], [[3, 3, 1], [2, 3, 1, 2, 2, 2, 4]])
        self.assertEqual(ask(*calls, tell(2, 1), tree(1))[6:], [[4, 1], [2, 2, 1, 1, 3, 2, 3]])

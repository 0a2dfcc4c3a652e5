"""The promises H1 to H5 over the whole program, on written and on made-up calls.

Calls are made up by a fixed rule, so each run of the tests plays the same ones.
"""

import unittest

from tests.helper import (
    MOST, begin, clear, compare, copy, count, get, look, new, num, phase, play, put, same, slot, tree, work)

BEGIN = begin()[0]
WORK = work(0)[0]
PHASE = phase()[0]
COUNT = count()[0]
MOST_CALLS = 400
ALL_TREES = [tree(r) for r in range(8)]
ALL_SAME = [same(r, d) for r in range(8) for d in range(r)]


class Dice:
    """Numbers that look thrown, but are the same in each run."""

    def __init__(self, seed):
        self.state = seed * 2654435761 % 2 ** 64

    def throw(self, sides):
        self.state = (self.state * 6364136223846793005 + 1442695040888963407) % 2 ** 64
        return (self.state >> 33) % sides

    def one_of(self, choices):
        return choices[self.throw(len(choices))]


def made_up_hand(dice, news=True):
    """One call of hands, mostly within its ranges."""
    def reg():
        return dice.one_of([0, 1, 2, 3, 4, 5, 6, 7] * 8 + [8, MOST])

    def place():
        return dice.one_of([0, 0, 0, 0, 1, 1, 2, 7, 8, MOST])

    sort = dice.throw(24)
    if sort < 6 and news:
        return new(reg(), dice.one_of([1, 1, 2, 2, 2, 3, 8, 0, 9]))
    if sort < 11:
        return get(reg(), reg(), place())
    if sort < 16:
        return put(reg(), place(), reg())
    if sort < 17:
        return num(reg(), dice.throw(3) - 1)
    if sort < 19:
        return clear(reg())
    if sort < 21:
        return copy(reg(), reg())
    return dice.one_of([look(reg()), slot(reg(), place()), same(reg(), reg()), tree(reg())])


def made_up_hands(dice, length):
    """Calls of hands with at most 64 new objects: without a round no free cell is wanting."""
    calls = []
    made = 0
    while len(calls) < length:
        call = made_up_hand(dice, made < 64)
        made += call[0] == 0
        calls.append(call)
    return calls


def made_up_sweeper(dice):
    return dice.one_of([begin(), begin(), work(1), work(1), work(2), work(5), work(20), work(1000), work(0), work(1001),
                        phase(), count()])


def of_the_sweeper(call):
    return call[0] in (BEGIN, WORK, PHASE, COUNT)


def heard_by_hands(calls):
    return [answer for call, answer in zip(calls, play(calls)) if not of_the_sweeper(call)]


def is_refusal(answer):
    return len(answer) == 1 and answer[0] < 0


# Objects go from slot to slot, through registers, into new ones, round in rings, and some are lost.
MOVES = [
    new(0, 2), new(1, 2), new(2, 1), put(1, 0, 2), clear(2), num(3, 7), put(1, 1, 3), get(4, 1, 0), put(0, 0, 4),
    put(1, 0, 6), clear(4), new(5, 3), get(4, 0, 0), put(5, 2, 4), put(0, 0, 6), clear(4), put(5, 0, 0), clear(0),
    tree(5), get(0, 5, 2), put(0, 0, 5), clear(5), new(1, 8), put(1, 7, 0), get(2, 0, 0), same(2, 5), clear(0),
    get(3, 1, 7), get(3, 3, 0), get(3, 3, 0), look(3), slot(3, 1), slot(2, 2), put(2, 2, 6), tree(1), clear(2), tree(3)]


class H1NothingLiveIsLost(unittest.TestCase):
    def test_no_more_objects_are_live_than_stand_in_cells_whatever_comes(self):
        for seed in range(300):
            dice = Dice(seed)
            calls = []
            while len(calls) < MOST_CALLS:
                calls.append(dice.one_of([made_up_hand, made_up_hand, made_up_sweeper])(dice))
                calls.append(count())
            for call, answer in zip(calls, play(calls)):
                if call == count():
                    self.assertGreaterEqual(answer[0], answer[2])

    def test_the_same_objects_are_live_with_and_without_the_sweeper(self):
        for seed in range(200):
            dice = Dice(seed)
            hands = made_up_hands(dice, 130)
            without = play([call for hand in hands for call in (hand, count())])
            with_it = play([call for hand in hands for call in (hand, made_up_sweeper(dice), count())])
            compare(self, [answer[2] for answer in without[1::2]], [answer[2] for answer in with_it[2::3]])


class H2HandsSeeNothingOfTheSweeper(unittest.TestCase):
    def test_written_moves_with_begin_anywhere_and_so_many_steps_behind_each(self):
        alone = play(MOVES + ALL_TREES)
        for place in range(len(MOVES) + 1):
            for n in (0, 1, 2, 3, 7, 30, 64, 1000):
                behind = [call for hand in MOVES[place:] for call in (work(n), hand)]
                calls = MOVES[:place] + [begin()] + behind + [work(n)] + ALL_TREES
                compare(self, heard_by_hands(calls), alone)

    def test_written_moves_with_a_round_that_stops_anywhere_and_goes_on_anywhere(self):
        alone = play(MOVES + ALL_TREES)
        for place in range(len(MOVES)):
            for later in range(place, len(MOVES)):
                for n in (1, 2, 3, 4, 5, 6):
                    calls = MOVES[:place] + [begin(), work(n)] + MOVES[place:later] + [work(1000), begin()]
                    compare(self, heard_by_hands(calls + MOVES[later:] + [work(1000)] + ALL_TREES), alone)

    def test_made_up_calls_with_the_sweeper_anywhere(self):
        for seed in range(400):
            dice = Dice(seed)
            hands = made_up_hands(dice, 150) + ALL_TREES + ALL_SAME
            mixed = list(hands)
            while len(mixed) < MOST_CALLS:
                mixed.insert(dice.throw(len(mixed) + 1), made_up_sweeper(dice))
            compare(self, heard_by_hands(mixed), play(hands))

    def test_made_up_calls_with_one_step_between_any_two(self):
        for seed in range(200):
            hands = made_up_hands(Dice(seed), 120)
            mixed = [call for hand in hands for call in (hand, begin(), work(1))]
            compare(self, heard_by_hands(mixed + ALL_TREES), play(hands + ALL_TREES))

    def test_made_up_calls_with_a_whole_round_between_any_two(self):
        for seed in range(100):
            hands = made_up_hands(Dice(seed), 120)
            mixed = [call for hand in hands for call in (hand, begin(), work(1000))]
            compare(self, heard_by_hands(mixed + ALL_TREES), play(hands + ALL_TREES))


class H3WhatIsNotLiveGoes(unittest.TestCase):
    def test_a_round_by_itself_leaves_just_what_is_live(self):
        for seed in range(300):
            dice = Dice(seed)
            heard = play(made_up_hands(dice, 60 + seed) + [count(), begin(), work(1000), count(), phase()])
            before, after, stage = heard[-5], heard[-2], heard[-1]
            self.assertEqual(after, [before[2], 1, before[2]])
            self.assertEqual(stage, [0])

    def test_also_behind_rounds_among_which_hands_worked(self):
        for seed in range(300):
            dice = Dice(seed)
            mixed = [dice.one_of([made_up_hand, made_up_hand, made_up_sweeper])(dice) for place in range(390)]
            heard = play(mixed + [work(1000), count(), begin(), work(1000), count(), phase()])
            before, after, stage = heard[-5], heard[-2], heard[-1]
            self.assertEqual(after, [before[2], 1, before[2]])
            self.assertEqual(stage, [0])

    def test_what_was_not_live_is_gone_though_hands_go_on(self):
        # Hands lose nothing here, so what is left is what was live and what is new.
        for lost in range(0, 41, 4):
            for n in range(0, 72, 3):
                setup = [new(0, 8)] + [new(1, 1)] * lost + [new(1, 2), put(0, 0, 1), clear(1)]
                between = [new(2, 1), put(0, 1, 2), get(3, 0, 0), new(4, 2), put(4, 1, 3)]
                heard = play(setup + [count(), begin(), work(n)] + between + [work(1000), count()])
                self.assertEqual(heard[len(setup)], [2 + lost, 1, 2])
                self.assertEqual(heard[-1], [4, 1, 4])

    def test_no_more_is_left_than_was_live_and_is_new_whatever_hands_do(self):
        for seed in range(300):
            dice = Dice(seed)
            setup = made_up_hands(dice, 100)
            during = [call for place in range(70) for call in (made_up_hand(dice), work(2))]
            heard = play(setup + [work(1000), count(), begin()] + during + [work(1000), phase(), count()])
            live = heard[len(setup) + 1][2]
            made = sum(call[0] == 0 and answer == [0] for call, answer in zip(during, heard[len(setup) + 3:]))
            self.assertEqual(heard[-2], [0])
            self.assertLessEqual(heard[-1][0], live + made)


class H4EachRoundEnds(unittest.TestCase):
    # 64 live objects: one in each register, the others in the slots of the first seven.
    FULL = [new(r, 8) for r in range(7)]
    FULL += [call for place in range(56) for call in (new(7, 1), put(place // 8, place % 8, 7))]
    FULL += [new(7, 1)]

    def steps_of(self, setup, between):
        """How many steps a round takes with one of these calls in front of each step."""
        calls = setup + [begin()] + [call for hand in between for call in (hand, work(1))] + [phase()]
        self.assertLessEqual(len(calls), MOST_CALLS)
        heard = play(calls)
        self.assertEqual(heard[len(setup)], [0])
        self.assertEqual(heard[-1], [0])
        return sum(answer[0] for answer in heard[len(setup) + 2:-1:2])

    def test_no_objects(self):
        self.assertEqual(play([begin(), work(1000), phase()]), [[0], [66], [0]])
        self.assertEqual(self.steps_of([], [look(0)] * 130), 66)

    def test_64_objects(self):
        self.assertEqual(play(self.FULL + [count()])[-1], [64, 1, 64])
        self.assertEqual(play(self.FULL + [begin(), work(1000), phase()])[-3:], [[0], [130], [0]])
        self.assertEqual(self.steps_of(self.FULL, [look(0)] * 130), 130)

    def test_64_objects_none_live(self):
        lost = self.FULL + [clear(r) for r in range(8)]
        self.assertEqual(play(lost + [begin(), work(1000), phase()])[-3:], [[0], [66], [0]])

    def test_objects_got_again_and_again(self):
        for between in ([get(7, 0, 0)], [get(7, 6, 7)], [get(7, 0, 0), get(7, 6, 7)], [get(7, 0, 0), put(0, 0, 7)]):
            self.assertEqual(self.steps_of(self.FULL, (between * 130)[:130]), 130)

    def test_new_objects_again_and_again(self):
        for between in ([new(0, 1)], [new(0, 1), put(0, 0, 0)], [new(0, 1), put(0, 0, 1), copy(1, 0)]):
            self.assertEqual(self.steps_of([], (between * 130)[:130]), 66)
            self.assertLessEqual(self.steps_of(self.FULL, (between * 130)[:130]), 130)

    def test_made_up_hands_from_no_object_on(self):
        for seed in range(100):
            dice = Dice(seed)
            self.assertLessEqual(self.steps_of([], [made_up_hand(dice) for place in range(130)]), 130)

    def test_made_up_hands_with_64_objects(self):
        for seed in range(100):
            dice = Dice(seed)
            self.assertLessEqual(self.steps_of(self.FULL, [made_up_hand(dice) for place in range(130)]), 130)

    def test_made_up_hands_with_made_up_objects(self):
        for seed in range(130):
            dice = Dice(seed)
            setup = made_up_hands(dice, seed)
            self.assertLessEqual(self.steps_of(setup, [made_up_hand(dice) for place in range(130)]), 130)


class H5RefusedJustAsTold(unittest.TestCase):
    # Each refused call whatever the phase, with r0 an object of two slots, r1 a number, r2 nothing.
    SETUP = [new(0, 2), num(1, 5), put(0, 0, 1)]
    REFUSED = [
        (new(8, 1), -1), (new(0, 0), -1), (new(0, 9), -1), (new(8, 9), -1), (new(MOST, MOST), -1),
        (get(8, 0, 0), -1), (get(0, 8, 0), -1), (get(8, 1, 0), -1), (get(8, 0, 2), -1), (get(3, 1, 0), -5),
        (get(3, 2, 0), -5), (get(3, 1, 9), -5), (get(3, 0, 2), -4), (get(3, 0, MOST), -4),
        (put(8, 0, 0), -1), (put(0, 0, 8), -1), (put(1, 0, 8), -1), (put(0, 2, 8), -1), (put(1, 0, 0), -5),
        (put(2, 0, 0), -5), (put(1, 9, 0), -5), (put(0, 2, 0), -4), (put(0, MOST, 0), -4),
        (num(8, 0), -1), (num(MOST, -MOST), -1), (clear(8), -1), (copy(8, 0), -1), (copy(0, 8), -1), (look(8), -1),
        (slot(8, 0), -1), (slot(8, 9), -1), (slot(1, 0), -5), (slot(2, 9), -5), (slot(0, 2), -4), (slot(0, MOST), -4),
        (same(8, 0), -1), (same(0, 8), -1), (same(8, 8), -1), (tree(8), -1), (tree(MOST), -1),
        (work(1001), -1), (work(MOST), -1)]
    ASKED = [phase(), count()] + [look(r) for r in range(8)] + ALL_TREES + ALL_SAME

    def test_each_refusal_in_each_phase(self):
        for n, stage in ((None, 0), (0, 1), (1, 1), (2, 2), (3, 2), (66, 2), (67, 0)):
            setup = self.SETUP + ([] if n is None else [begin(), work(n)])
            before = play(setup + self.ASKED)[len(setup):]
            self.assertEqual(before[0], [stage])
            for call, refusal in self.REFUSED + ([(begin(), -3)] if stage else []):
                heard = play(setup + [call] + self.ASKED)[len(setup):]
                self.assertEqual(heard, [[refusal]] + before, call)

    def test_no_free_cell(self):
        for n, stage in ((None, 0), (0, 1), (1, 1), (2, 2)):
            setup = [new(0, 1)] * 64 + ([] if n is None else [begin(), work(n)])
            before = play(setup + self.ASKED)[len(setup):]
            self.assertEqual(before[0], [stage])
            for call, refusal in ((new(0, 1), -6), (new(7, 8), -6), (new(8, 1), -1), (new(0, 0), -1), (new(0, 9), -1)):
                heard = play(setup + [call] + self.ASKED)[len(setup):]
                self.assertEqual(heard, [[refusal]] + before, call)

    def test_calls_go_on_as_if_the_refused_ones_had_not_been(self):
        met = {}
        for seed in range(400):
            dice = Dice(seed)
            choices = [made_up_hand, made_up_hand, made_up_hand, made_up_sweeper]
            mixed = [new(seed % 8, 2)] * (seed % 65)
            while len(mixed) < MOST_CALLS - len(ALL_TREES) - 2:
                mixed.append(dice.one_of(choices)(dice))
            mixed += ALL_TREES + [phase(), count()]
            heard = play(mixed)
            taken = [(call, answer) for call, answer in zip(mixed, heard) if not is_refusal(answer)]
            met.update({answer[0]: True for answer in heard if is_refusal(answer)})
            compare(self, play([call for call, answer in taken]), [answer for call, answer in taken])
        self.assertEqual(sorted(met), [-6, -5, -4, -3, -1])


if __name__ == "__main__":
    unittest.main()

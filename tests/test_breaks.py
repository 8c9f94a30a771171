import unittest

from tests.helpers import (AGAIN, BACK, FRAMES, GIVE, MISSED_BLACK, MISSED_RED, NOW, begin, clearance, last_answer, pot,
                           stroke, tie_by_foul, tie_by_pot, to_lowest, toss)


def break_now(*calls):
    return last_answer(begin(3), *calls, NOW)[5]


def highest(*calls):
    """The highest breaks of both in the last frame that is over."""
    return last_answer(begin(3), *calls, FRAMES)[-2:]


class TheBreak(unittest.TestCase):
    def test_none_at_the_beginning(self):
        self.assertEqual(break_now(), 0)

    def test_it_grows_by_what_is_made(self):
        calls = [pot(1), pot(7), stroke(hit=1, potted=[1, 1, 1]), pot(2), pot(1)]
        self.assertEqual([break_now(*calls[:number]) for number in range(6)], [0, 1, 8, 11, 13, 14])

    def test_by_the_lowest(self):
        self.assertEqual([break_now(*to_lowest(ball)) for ball in range(2, 8)], [22, 24, 27, 31, 36, 42])

    def test_by_a_free_ball(self):
        self.assertEqual(break_now(stroke(hidden=1), pot(7)), 1)
        self.assertEqual(break_now(stroke(hidden=1), stroke(hit=7, named=7, potted=[7, 1])), 2)
        self.assertEqual(break_now(*to_lowest(4), stroke(hidden=1), pot(7)), 4)
        self.assertEqual(break_now(*to_lowest(4), stroke(hidden=1), stroke(hit=7, named=7, potted=[4, 7])), 4)

    def test_a_stroke_that_makes_nothing_ends_it(self):
        self.assertEqual(break_now(pot(1), stroke(hit=7, named=7)), 0)
        self.assertEqual(break_now(pot(1), pot(7), MISSED_RED), 0)
        self.assertEqual(break_now(pot(1), pot(7), MISSED_RED, MISSED_RED), 0)

    def test_a_foul_ends_it(self):
        self.assertEqual(break_now(pot(1), stroke()), 0)
        self.assertEqual(break_now(pot(1), stroke(hit=7, named=7, potted=[7, 0])), 0)
        self.assertEqual(break_now(pot(1), pot(7), stroke(hit=1, potted=[1], conduct=8)), 0)

    def test_the_points_of_a_foul_are_no_break(self):
        self.assertEqual(break_now(stroke(hit=7)), 0)
        self.assertEqual(break_now(stroke(hit=7), pot(1)), 1)

    def test_each_turn_has_its_own(self):
        self.assertEqual(break_now(pot(1), pot(7), MISSED_RED, pot(1)), 1)
        self.assertEqual(break_now(pot(1), pot(7), MISSED_RED, pot(1), stroke(hit=2, named=2), pot(1), pot(5)), 6)

    def test_again_and_back_bring_none_again(self):
        foul = stroke(named=7, miss=1)
        for call in (AGAIN, BACK):
            self.assertEqual(break_now(pot(1), foul, call), 0)
        self.assertEqual(break_now(pot(1), foul, AGAIN, pot(1)), 1)
        self.assertEqual(break_now(pot(1), foul, BACK, pot(6)), 6)

    def test_a_refused_call_leaves_it(self):
        refused = [stroke(hit=8), stroke(potted=[1]), AGAIN, BACK, toss(0), begin(2)]
        self.assertEqual(break_now(pot(1), pot(7), *refused), 8)
        self.assertEqual(break_now(pot(1), pot(7), *refused, pot(1)), 9)

    def test_it_ends_with_its_frame(self):
        self.assertEqual(break_now(*clearance()), 0)
        self.assertEqual(break_now(pot(1), pot(7), GIVE), 0)
        self.assertEqual(break_now(pot(1), pot(7), GIVE, pot(1)), 1)

    def test_the_greatest_there_is(self):
        # A foul leaves a free ball, and then all 15 reds, each with the black, and the colours.
        calls = [stroke(hidden=1), pot(7), pot(7)] + [pot(1), pot(7)] * 15 + [pot(ball) for ball in range(2, 7)]
        self.assertEqual(break_now(*calls), 148)
        self.assertEqual(highest(*calls, pot(7)), [0, 155])

    def test_a_tie_ends_it(self):
        # Player 0 is 159 behind with 4 points, and makes 155: the black is tossed for.
        calls = [stroke(conduct=7), AGAIN] * 22 + [stroke(conduct=5), stroke(hidden=1)]
        calls += [pot(7), pot(7)] + [pot(1), pot(7)] * 15 + [pot(ball) for ball in range(2, 8)]
        self.assertEqual(last_answer(begin(3), *calls, NOW), [2, 159, 159, 0, 7, 0, 7, 0, 0, 0])
        self.assertEqual(highest(*calls, toss(0), pot(7)), [155, 0])
        self.assertEqual(highest(*calls, toss(1), pot(7)), [155, 7])


class TheHighest(unittest.TestCase):
    def test_none(self):
        self.assertEqual(highest(GIVE), [0, 0])
        self.assertEqual(highest(stroke(hit=7), GIVE), [0, 0])

    def test_of_several_the_highest(self):
        big, small = [pot(1), pot(7)], [pot(1), pot(2)]
        self.assertEqual(highest(*big, MISSED_RED, MISSED_RED, *small, MISSED_RED, GIVE), [8, 0])
        self.assertEqual(highest(*small, MISSED_RED, MISSED_RED, *big, MISSED_RED, GIVE), [8, 0])
        self.assertEqual(highest(*small, MISSED_RED, *big, stroke(), *big, *big, stroke(), *small, GIVE), [16, 8])

    def test_they_are_not_added_up(self):
        self.assertEqual(highest(pot(1), stroke(named=2), MISSED_RED, pot(1), stroke(named=2), GIVE), [1, 0])
        self.assertEqual(highest(pot(1), stroke(named=2, miss=1), BACK, pot(2), GIVE), [2, 0])
        self.assertEqual(highest(pot(1), stroke(named=2), AGAIN, pot(1), GIVE), [1, 0])

    def test_one_that_ends_with_its_frame(self):
        self.assertEqual(highest(*clearance()), [49, 0])
        self.assertEqual(highest(MISSED_RED, *clearance()), [0, 49])
        self.assertEqual(highest(pot(1), pot(7), GIVE), [8, 0])
        self.assertEqual(highest(MISSED_RED, pot(1), GIVE), [0, 1])

    def test_one_that_ends_by_a_foul_that_ends_the_frame(self):
        self.assertEqual(highest(*to_lowest(7), stroke()), [42, 0])
        lost = [stroke(named=2, miss=2), BACK] * 2 + [stroke(named=2, miss=2)]
        self.assertEqual(highest(pot(1), pot(7), pot(1), *lost), [9, 0])

    def test_one_ahead_of_the_toss(self):
        self.assertEqual(highest(*tie_by_pot(), toss(0), pot(7)), [49, 0])
        self.assertEqual(highest(*tie_by_pot(), toss(1), pot(7)), [49, 7])
        self.assertEqual(highest(*tie_by_foul(), toss(0), MISSED_BLACK, stroke()), [42, 0])

    def test_a_new_frame_has_its_own(self):
        self.assertEqual(highest(pot(1), pot(7), GIVE, pot(1), GIVE), [0, 1])

import unittest

from tests.helpers import (AGAIN, BACK, FOUL_OF_7, GIVE, LOST, MISSED_BLACK, MISSED_RED, NOW, all_answers, begin,
                           clearance, last_answer, pot, stroke, tie_by_foul, tie_by_pot, to_lowest, toss)

FRESH = [0, 0, 0, 15, 1, 0, 147, 0, 0, 0]


class NowCase(unittest.TestCase):
    def check(self, answer, *calls):
        self.assertEqual(last_answer(*calls, NOW), answer)


class NoFrame(NowCase):
    def test_before_a_match(self):
        self.check([-2])
        self.check([-2], begin(2))

    def test_behind_a_match(self):
        self.check([-2], begin(), *clearance())
        self.check([-2], begin(), GIVE)
        self.check([-2], begin(), *LOST)


class WhatIsOn(NowCase):
    def test_at_the_beginning(self):
        self.check(FRESH, begin())
        self.check([1] + FRESH[1:], begin(1, 1))

    def test_at_the_beginning_of_the_next_frame(self):
        for ended in (clearance(), [pot(1), stroke(named=2, hidden=1), GIVE], LOST):
            self.check([1] + FRESH[1:], begin(3), *ended)

    def test_behind_a_new_begin(self):
        self.check(FRESH, begin(), pot(1), stroke(named=2, hidden=1), begin())

    def test_a_red(self):
        self.check([0, 8, 0, 14, 1, 8, 139, 0, 0, 0], begin(), pot(1), pot(7))
        self.check([0, 21, 0, 1, 1, 21, 35, 0, 0, 0], begin(), stroke(hit=1, potted=[1] * 14), pot(7))

    def test_a_colour(self):
        self.check([0, 1, 0, 14, 0, 1, 146, 0, 0, 0], begin(), pot(1))
        self.check([1, 0, 3, 12, 0, 3, 130, 0, 0, 0], begin(1, 1), stroke(hit=1, potted=[1] * 3))

    def test_a_colour_behind_the_last_red(self):
        self.check([0, 15, 0, 0, 0, 15, 34, 0, 0, 0], begin(), stroke(hit=1, potted=[1] * 15))

    def test_the_lowest(self):
        points, left = 22, 27
        for ball, fouls in ((2, 0), (3, 0), (4, 2), (5, 4), (6, 6), (7, 9)):
            self.check([0, points, 0, 0, ball, points, left, 0, 0, fouls], begin(), *to_lowest(ball))
            self.check([1, points, 0, 0, ball, 0, left, 0, 0, fouls], begin(), *to_lowest(ball), stroke(hit=ball))
            points, left = points + ball, left - ball

    def test_the_points_of_each(self):
        self.check([1, 8, 7, 14, 1, 0, 139, 0, 0, 0], begin(), pot(1), pot(7), FOUL_OF_7)
        self.check([0, 15, 8, 13, 1, 0, 131, 0, 0, 0], begin(), pot(1), pot(7), FOUL_OF_7, pot(1), stroke(named=7))


class BehindAFoul(NowCase):
    def test_no_ball_may_be_named_free(self):
        self.check([1, 0, 4, 15, 1, 0, 147, 0, 0, 0], begin(), stroke())

    def test_a_ball_may_be_named_free(self):
        self.check([1, 0, 4, 15, 1, 0, 147, 1, 0, 0], begin(), stroke(hidden=1))
        self.check([1, 27, 4, 0, 4, 0, 22, 1, 0, 1], begin(), *to_lowest(4), stroke(hidden=1))

    def test_it_may_no_more_behind_the_next_stroke(self):
        self.check([0, 0, 4, 15, 1, 0, 147, 0, 0, 0], begin(), stroke(hidden=1), MISSED_RED)
        self.check([1, 0, 5, 15, 0, 1, 154, 0, 0, 0], begin(), stroke(hidden=1), pot(7))

    def test_it_may_still_behind_a_refused_one(self):
        self.check([1, 0, 4, 15, 1, 0, 147, 1, 0, 0], begin(), stroke(hidden=1), stroke(hit=8), BACK, toss(0))

    def test_reds_are_gone(self):
        self.check([1, 0, 4, 12, 1, 0, 123, 0, 0, 0], begin(), stroke(hit=1, potted=[1, 1, 0], off=[1]))
        self.check([1, 0, 4, 0, 2, 0, 27, 0, 0, 0], begin(), stroke(hit=1, off=[1] * 15))

    def test_again(self):
        self.check([0, 0, 4, 15, 1, 0, 147, 0, 0, 0], begin(), stroke(hidden=1), AGAIN)
        self.check([0, 1, 5, 13, 1, 0, 131, 0, 0, 0], begin(), pot(1), stroke(hit=1, named=5, potted=[1]), AGAIN)

    def test_back(self):
        self.check([0, 0, 4, 15, 1, 0, 147, 0, 0, 0], begin(), stroke(hidden=1, miss=1), BACK)
        foul = stroke(hit=1, named=5, potted=[1], hidden=1, miss=1)
        self.check([1, 1, 5, 13, 1, 0, 131, 1, 0, 0], begin(), pot(1), foul)
        self.check([0, 1, 5, 14, 0, 0, 146, 0, 0, 0], begin(), pot(1), foul, BACK)


class TheToss(NowCase):
    def test_the_black_is_to_be_tossed_for(self):
        self.check([2, 42, 42, 0, 7, 0, 7, 0, 0, 0], begin(), *tie_by_foul())
        self.check([2, 49, 49, 0, 7, 0, 7, 0, 0, 0], begin(), *tie_by_pot())
        self.check([2, 42, 42, 0, 7, 0, 7, 0, 0, 0], begin(), *tie_by_foul()[:-1], stroke(hidden=1, miss=2))

    def test_it_was_tossed_for(self):
        for who in (0, 1):
            self.check([who, 42, 42, 0, 7, 0, 7, 0, 0, 0], begin(), *tie_by_foul(), toss(who))
            self.check([who, 49, 49, 0, 7, 0, 7, 0, 0, 0], begin(), *tie_by_pot(), toss(who))
            self.check([1 - who, 49, 49, 0, 7, 0, 7, 0, 0, 0], begin(), *tie_by_pot(), toss(who), MISSED_BLACK)


class FoulsNeeded(unittest.TestCase):
    def needed(self, first, costs):
        """Who plays first makes 15 and the other fouls at these costs, with 27 left."""
        calls = [begin(1, first), stroke(hit=1, potted=[1] * 15), stroke(hit=7, named=7)]
        for cost in costs:
            calls += [stroke(conduct=cost), stroke(hit=2)]
        given = last_answer(*calls, NOW)
        self.assertEqual([given[1 + first], given[2 - first], given[6]], [15 + sum(costs), 0, 27])
        self.assertEqual(given[8 + first], 0)
        return given[9 - first]

    def test_at_each_border(self):
        for costs, fouls in (([], 0), ([4, 7], 0), ([4, 4, 4], 0), ([4, 4, 5], 1), ([4] * 4, 1), ([5, 4, 4, 4], 2),
                             ([5] * 4, 2), ([7, 7, 7], 3), ([6] * 4, 3), ([5] * 5, 4)):
            for first in (0, 1):
                self.assertEqual(self.needed(first, costs), fouls, costs)

    def test_a_colour_that_is_on_is_left_too(self):
        # 15 to 49 and 34 left; with one foul more it is 15 to 53.
        calls = [FOUL_OF_7, MISSED_RED] * 7 + [stroke(hit=1, potted=[1] * 15)]
        self.assertEqual(last_answer(begin(), *calls, NOW), [0, 15, 49, 0, 0, 15, 34, 0, 0, 0])
        calls = [stroke(), MISSED_RED] + calls
        self.assertEqual(last_answer(begin(), *calls, NOW), [0, 15, 53, 0, 0, 15, 34, 0, 1, 0])
        # The colour isn't potted: 27 are left and 38 are between them.
        self.assertEqual(last_answer(begin(), *calls, stroke(hit=2, named=2), NOW), [1, 15, 53, 0, 2, 0, 27, 0, 3, 0])

    def test_many(self):
        # 0 to 7 for each foul with all reds there: 147 left.
        for fouls, needed in ((21, 0), (22, 2), (23, 4)):
            given = last_answer(begin(), *[FOUL_OF_7, AGAIN] * fouls, NOW)
            self.assertEqual(given, [0, 0, 7 * fouls, 15, 1, 0, 147, 0, needed, 0])


class NowChangesNothing(unittest.TestCase):
    def test_between_all_calls(self):
        calls = [begin(3), pot(1), stroke(hit=1, named=5, hidden=1, miss=2), BACK, pot(7), stroke(hidden=1), pot(7),
                 pot(6), stroke(), AGAIN, *LOST, *tie_by_pot(), toss(1), MISSED_BLACK, pot(7), pot(1), GIVE]
        between = []
        for call in calls:
            between += [call, NOW, NOW]
        given = all_answers(*between)
        self.assertEqual(given[::3], all_answers(*calls))
        self.assertEqual(given[1::3], given[2::3])

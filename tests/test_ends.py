import unittest

from tests.helpers import (BACK, FOUL_OF_7, LOST, MISSED_BLACK, MISSED_RED, all_answers, begin, clearance, last_answer,
                           pot, stroke, tie_by_foul, tie_by_pot, to_lowest, toss)

# 35 points for the one who doesn't play first.
FIVE_FOULS = [FOUL_OF_7, MISSED_RED] * 5


def who_begins(*calls):
    return last_answer(*calls, pot(1))[3]


def winner_of_frame(calls, first=0):
    """Who won the frame that these calls end, seen by whether the next one ends a match of three."""
    assert last_answer(begin(3, first), *calls)[2:] == [1]
    # The other one plays first in the next frame and loses it by misses, whatever the points.
    ended = last_answer(begin(3, first), *calls, *LOST, MISSED_RED) == [-2]
    return first if ended else 1 - first


class EndOfAFrame(unittest.TestCase):
    def test_by_the_last_black(self):
        self.assertEqual(last_answer(begin(), *clearance()), [1, 7, 1])
        self.assertEqual(winner_of_frame(clearance(), 0), 0)
        self.assertEqual(winner_of_frame(clearance(), 1), 1)

    def test_who_has_more_points_wins_though_the_other_pots_the_black(self):
        calls = [*to_lowest(7), MISSED_BLACK, pot(7)]
        self.assertEqual(last_answer(begin(), *calls), [1, 7, 1])
        self.assertEqual(winner_of_frame(calls, 0), 0)
        self.assertEqual(winner_of_frame(calls, 1), 1)

    def test_one_point_is_more(self):
        # 49 to 50 and 49 to 48.
        for fouls, winner in (([7, 7, 7, 7, 7, 7, 4, 4], 1), ([7, 7, 7, 7, 7, 7, 6], 0)):
            calls = []
            for ball in fouls:
                calls += [stroke(conduct=ball), MISSED_RED]
            self.assertEqual(winner_of_frame(calls + clearance()), winner)

    def test_by_a_foul_at_the_black(self):
        for foul in (stroke(), stroke(hit=7, potted=[0]), stroke(hit=7, potted=[7, 0]), stroke(hit=7, off=[7]),
                     stroke(hit=7, potted=[7], conduct=8), stroke(hit=7, conduct=2), stroke(miss=2, hidden=1)):
            calls = [*to_lowest(7), foul]
            self.assertEqual(last_answer(begin(), *calls), [2, 7, 1])
            self.assertEqual(winner_of_frame(calls), 0)

    def test_the_points_of_that_foul_count(self):
        # 42 to 38, and with this foul's 7 it's 42 to 45.
        calls = [*FIVE_FOULS[2:], stroke(conduct=6), MISSED_RED, stroke(), MISSED_RED, *to_lowest(7), stroke()]
        self.assertEqual(winner_of_frame(calls), 1)

    def test_not_by_a_foul_while_more_than_the_black_is_left(self):
        self.assertEqual(last_answer(begin(), *to_lowest(6), stroke()), [2, 6, 0, 1, 6, 0, 0])

    def test_not_by_no_foul_at_the_black(self):
        calls = [begin(), *to_lowest(7), MISSED_BLACK, MISSED_BLACK]
        self.assertEqual(last_answer(*calls), [0, 0, 0, 0, 7, 0, 0])

    def test_not_by_the_black_as_a_colour(self):
        self.assertEqual(last_answer(begin(), stroke(hit=1, potted=[1] * 15), pot(7)), [1, 7, 0, 0, 2, 0, 0])


class TheToss(unittest.TestCase):
    def test_by_a_foul(self):
        self.assertEqual(last_answer(begin(), *tie_by_foul()), [2, 7, 0, 2, 7, 0, 0])

    def test_by_a_foul_with_hidden_and_miss(self):
        calls = tie_by_foul()[:-1] + [stroke(hidden=1, miss=2)]
        self.assertEqual(last_answer(begin(), *calls), [2, 7, 0, 2, 7, 0, 0])

    def test_by_a_pot(self):
        self.assertEqual(last_answer(begin(), *tie_by_pot()), [1, 7, 0, 2, 7, 0, 0])

    def test_who_is_told_plays_first(self):
        for who in (0, 1):
            for tie in (tie_by_foul(), tie_by_pot()):
                given = all_answers(begin(), *tie, toss(who), MISSED_BLACK)
                self.assertEqual(given[-2:], [[0], [0, 0, 0, 1 - who, 7, 0, 0]])

    def test_the_black_lies_alone(self):
        for ball in range(1, 7):
            self.assertEqual(last_answer(begin(), *tie_by_pot(), toss(0), stroke(hit=ball)), [-4])

    def test_the_next_pot_ends_the_frame(self):
        for who in (0, 1):
            for tie in (tie_by_foul(), tie_by_pot()):
                self.assertEqual(last_answer(begin(), *tie, toss(who), pot(7)), [1, 7, 1])
                self.assertEqual(winner_of_frame(tie + [toss(who), pot(7)]), who)
                self.assertEqual(winner_of_frame(tie + [toss(who), MISSED_BLACK, pot(7)]), 1 - who)

    def test_the_next_foul_ends_the_frame(self):
        for who in (0, 1):
            self.assertEqual(last_answer(begin(), *tie_by_pot(), toss(who), stroke(hidden=1, miss=2)), [2, 7, 1])
            self.assertEqual(winner_of_frame(tie_by_pot() + [toss(who), stroke()]), 1 - who)
            self.assertEqual(winner_of_frame(tie_by_pot() + [toss(who), stroke(hit=7, potted=[7, 0])]), 1 - who)

    def test_who_plays_first_behind_the_toss_says_nothing_of_the_next_frame(self):
        for who in (0, 1):
            self.assertEqual(who_begins(begin(3, 0), *tie_by_pot(), toss(who), pot(7)), 1)


class TheMatch(unittest.TestCase):
    def test_one_frame(self):
        self.assertEqual(all_answers(begin(1), *clearance(), MISSED_RED)[-2:], [[1, 7, 1], [-2]])

    def test_more_than_half_win_it(self):
        for best in (1, 3, 5, 35):
            for first in (0, 1):
                # Who plays first loses each frame: the two win in turn, and the last frame decides.
                given = all_answers(begin(best, first), *LOST * best, MISSED_RED)
                self.assertEqual(given[-2:], [[2, 4, 1], [-2]], best)
                before = all_answers(begin(best, first), *LOST * (best - 1), MISSED_RED)
                self.assertEqual(before[-1][0], 0, best)

    def test_half_of_them_do_not(self):
        # Player 0 wins two frames of five, and a third.
        two = [*clearance(), MISSED_RED, *clearance()]
        self.assertEqual(all_answers(begin(5), *two, MISSED_RED)[-1], [0, 0, 0, 1, 1, 0, 0])
        self.assertEqual(all_answers(begin(5), *two, *clearance(), MISSED_RED)[-2:], [[1, 7, 1], [-2]])

    def test_who_plays_first_in_the_next_frames(self):
        for first in (0, 1):
            calls = [begin(9, first)]
            for number in range(4):
                self.assertEqual(who_begins(*calls), first if number % 2 == 0 else 1 - first)
                calls += clearance()

    def test_whoever_won_the_frame(self):
        # Player 1 wins the frame that player 0 played first, and plays first in the next.
        self.assertEqual(who_begins(begin(3, 0), MISSED_RED, *clearance()), 1)
        self.assertEqual(who_begins(begin(3, 0), *clearance()), 1)

    def test_a_new_frame_has_all_balls_and_a_red_on(self):
        calls = [begin(3), *clearance()]
        self.assertEqual(last_answer(*calls, stroke(hit=1, potted=[1] * 15)), [1, 15, 0, 1, 0, 0, 0])
        self.assertEqual(last_answer(*calls, stroke(hit=1, potted=[1] * 16)), [-4])
        for ball in range(2, 8):
            self.assertEqual(last_answer(*calls, pot(1), pot(ball)), [1, ball, 0, 1, 1, 0, 0])

    def test_a_new_frame_has_no_points(self):
        # 49 to 0 in the first frame; in the second 35 to 42 and a foul at the black: the toss.
        calls = [begin(3), *clearance(), *tie_by_foul()]
        self.assertEqual(last_answer(*calls), [2, 7, 0, 2, 7, 0, 0])

    def test_a_new_frame_has_no_ball_free(self):
        calls = [begin(3), *to_lowest(7), stroke(hidden=1)]
        self.assertEqual(last_answer(*calls, pot(7)), [2, 7, 0, 0, 1, 0, 0])
        calls = [begin(3), *[stroke(miss=2), BACK] * 2, stroke(hidden=1, miss=2)]
        self.assertEqual(last_answer(*calls, pot(7)), [2, 7, 0, 0, 1, 0, 0])

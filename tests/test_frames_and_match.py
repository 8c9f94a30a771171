import unittest

from tests.helpers import (BACK, FOUL_OF_7, FRAMES, GIVE, LOST, MATCH, MISSED_BLACK, MISSED_RED, all_answers, begin,
                           clearance, last_answer, long_break, pot, stroke, tie_by_foul, tie_by_pot, to_lowest, toss)


class ReportCase(unittest.TestCase):
    def check(self, frames, match, *calls):
        self.assertEqual(all_answers(*calls, FRAMES, MATCH)[-2:], [frames, match])


class NothingIsOver(ReportCase):
    def test_before_a_match(self):
        self.check([0], [1, 0, 0, 0, 0, 0, 0, 0])

    def test_before_a_match_behind_refused_calls(self):
        self.check([0], [1, 0, 0, 0, 0, 0, 0, 0], begin(2), begin(3, 2), stroke(), GIVE, toss(0))

    def test_at_the_beginning(self):
        for best in (1, 3, 35):
            self.check([0], [0, best, 0, 0, 0, 0, 0, 0], begin(best))

    def test_while_a_frame_is_played(self):
        self.check([0], [0, 3, 0, 0, 0, 0, 0, 0], begin(3), pot(1), pot(7), MISSED_RED)
        self.check([0], [0, 3, 0, 0, 0, 0, 0, 0], begin(3), *to_lowest(7))

    def test_while_the_black_is_to_be_tossed_for(self):
        for tie in (tie_by_foul(), tie_by_pot()):
            self.check([0], [0, 1, 0, 0, 0, 0, 0, 0], begin(), *tie)
            self.check([0], [0, 1, 0, 0, 0, 0, 0, 0], begin(), *tie, toss(1), MISSED_BLACK)


class OneFrame(ReportCase):
    def check_one(self, outcome, *calls):
        """A frame with this outcome ends a match of one, and goes ahead of the next in a match of three."""
        won = [1 - outcome[0], outcome[0]]
        for best, state in ((1, 1), (3, 0)):
            self.check([1] + outcome, [state, best] + won + outcome[4:] + [0, 0], begin(best), *calls)

    def test_played_out(self):
        self.check_one([0, 0, 49, 0, 49, 0], *clearance())
        self.check_one([1, 0, 0, 49, 0, 49], MISSED_RED, *clearance())
        self.check_one([0, 0, 42, 7, 42, 7], *to_lowest(7), MISSED_BLACK, pot(7))

    def test_played_out_with_points_by_fouls(self):
        self.check_one([1, 0, 49, 56, 49, 0], *[FOUL_OF_7, MISSED_RED] * 8, *clearance())

    def test_played_out_by_a_foul(self):
        self.check_one([0, 0, 42, 7, 42, 0], *to_lowest(7), stroke())
        self.check_one([1, 0, 42, 49, 42, 0], *[FOUL_OF_7, MISSED_RED] * 6, *to_lowest(7), stroke(hit=7, potted=[7, 0]))

    def test_played_out_behind_the_toss(self):
        self.check_one([0, 0, 56, 49, 49, 0], *tie_by_pot(), toss(0), pot(7))
        self.check_one([1, 0, 49, 56, 49, 7], *tie_by_pot(), toss(1), pot(7))
        self.check_one([1, 0, 42, 49, 42, 0], *tie_by_foul(), toss(0), stroke())

    def test_given_up(self):
        self.check_one([1, 1, 0, 0, 0, 0], GIVE)
        self.check_one([0, 1, 0, 0, 0, 0], MISSED_RED, GIVE)
        self.check_one([1, 1, 8, 0, 8, 0], pot(1), pot(7), GIVE)
        self.check_one([0, 1, 8, 7, 8, 0], pot(1), pot(7), stroke(hit=7), GIVE)

    def test_given_up_behind_the_toss(self):
        self.check_one([1, 1, 42, 42, 42, 0], *tie_by_foul(), toss(0), GIVE)

    def test_lost_by_misses(self):
        self.check_one([1, 2, 0, 12, 0, 0], *LOST)
        self.check_one([0, 2, 12, 0, 0, 0], MISSED_RED, *LOST)

    def test_lost_by_misses_with_more_points(self):
        self.check_one([1, 2, 32, 14, 32, 0], *[pot(1), pot(7)] * 4, stroke(miss=2), BACK, stroke(miss=2), BACK,
                       stroke(hit=6, miss=2))

    def test_lost_by_misses_while_a_colour_is_on(self):
        self.check_one([1, 2, 9, 15, 9, 0], pot(1), pot(7), pot(1), *[stroke(named=5, miss=2), BACK] * 2,
                       stroke(named=5, miss=2))


class SeveralFrames(ReportCase):
    def test_in_their_order(self):
        outcomes = [[0, 0, 49, 0, 49, 0], [0, 1, 0, 1, 0, 1], [1, 2, 0, 12, 0, 0]]
        calls = [begin(5), *clearance(), pot(1), GIVE, *LOST]
        self.check([3] + sum(outcomes, []), [0, 5, 2, 1, 49, 1, 0, 0], *calls)
        # Player 1 plays first in the fourth frame, and player 0 wins the match by it.
        calls += [pot(1), pot(2), MISSED_RED, *clearance_of_14()]
        outcomes += [[0, 0, 48, 3, 48, 3]]
        self.check([4] + sum(outcomes, []), [1, 5, 3, 1, 49, 3, 0, 0], *calls)

    def test_the_frame_that_is_being_played_does_not_count(self):
        over = [begin(3), pot(1), pot(2), MISSED_RED, GIVE]
        self.check([1, 1, 1, 3, 0, 3, 0], [0, 3, 0, 1, 3, 0, 0, 0], begin(3), pot(1), pot(2), GIVE)
        self.check([1, 0, 1, 3, 0, 3, 0], [0, 3, 1, 0, 3, 0, 0, 0], *over)
        self.check([1, 0, 1, 3, 0, 3, 0], [0, 3, 1, 0, 3, 0, 0, 0], *over, *long_break(7))
        self.check([1, 0, 1, 3, 0, 3, 0], [0, 3, 1, 0, 3, 0, 0, 0], *over, *long_break(7), MISSED_RED)
        self.check([2, 0, 1, 3, 0, 3, 0, 1, 1, 0, 104, 0, 104], [0, 3, 1, 1, 3, 104, 0, 1],
                   *over, *long_break(7), MISSED_RED, GIVE)

    def test_the_highest_break_of_all_frames(self):
        for early, late in ((7, 2), (2, 7)):
            calls = [begin(5), pot(1), pot(early), GIVE, MISSED_RED, pot(1), pot(late), GIVE]
            self.assertEqual(last_answer(*calls, MATCH), [0, 5, 0, 2, 8, 0, 0, 0])

    def test_as_many_frames_as_there_may_be(self):
        given = last_answer(begin(35), *[GIVE] * 35, FRAMES)
        outcomes = [[1 - number % 2, 1, 0, 0, 0, 0] for number in range(35)]
        self.assertEqual(given, [35] + sum(outcomes, []))
        self.assertEqual(last_answer(begin(35), *[GIVE] * 35, MATCH), [1, 35, 17, 18, 0, 0, 0, 0])
        self.assertEqual(last_answer(begin(35), *[GIVE] * 34, MATCH), [0, 35, 17, 17, 0, 0, 0, 0])

    def test_a_match_that_is_won_early(self):
        calls = [begin(5)] + [GIVE, MISSED_RED, GIVE, GIVE]
        self.check([3] + [1, 1, 0, 0, 0, 0] * 3, [1, 5, 0, 3, 0, 0, 0, 0], *calls)
        self.check([3] + [1, 1, 0, 0, 0, 0] * 3, [1, 5, 0, 3, 0, 0, 0, 0], *calls, pot(1), GIVE, toss(0))

    def test_a_new_begin_forgets_them(self):
        for ended in ([begin(1), *clearance()], [begin(3), *clearance()], [begin(3), *long_break(7), GIVE]):
            self.check([0], [0, 7, 0, 0, 0, 0, 0, 0], *ended, begin(7))
            self.check([1, 1, 1, 1, 0, 1, 0], [0, 7, 0, 1, 1, 0, 0, 0], *ended, begin(7), pot(1), GIVE)

    def test_a_refused_begin_leaves_them(self):
        self.check([1, 0, 0, 49, 0, 49, 0], [1, 1, 1, 0, 49, 0, 0, 0], begin(1), *clearance(), begin(2), begin(3, 2))
        self.check([1, 0, 0, 49, 0, 49, 0], [0, 3, 1, 0, 49, 0, 0, 0], begin(3), *clearance(), begin(0), begin(1, -1))

    def test_asking_changes_nothing(self):
        calls = [begin(3), pot(1), pot(7), *LOST, *tie_by_pot(), toss(1), pot(7), pot(1)]
        between = []
        for call in calls:
            between += [call, FRAMES, MATCH]
        self.assertEqual(all_answers(*between)[::3], all_answers(*calls))


def clearance_of_14():
    """With 14 reds there, one player makes 48 and ends the frame."""
    return [stroke(hit=1, potted=[1] * 14)] + clearance()[1:]


class BreaksOf100(ReportCase):
    def big_breaks(self, *calls):
        return last_answer(*calls, MATCH)[4:]

    def test_99_and_100(self):
        self.assertEqual(self.big_breaks(begin(3), *long_break(2), GIVE), [99, 0, 0, 0])
        self.assertEqual(self.big_breaks(begin(3), *long_break(3), GIVE), [100, 0, 1, 0])
        self.assertEqual(self.big_breaks(begin(3), *long_break(4), GIVE), [101, 0, 1, 0])
        self.assertEqual(self.big_breaks(begin(3, 1), *long_break(2), GIVE), [0, 99, 0, 0])
        self.assertEqual(self.big_breaks(begin(3, 1), *long_break(3), GIVE), [0, 100, 0, 1])

    def test_ended_by_a_turn_or_a_foul(self):
        self.assertEqual(self.big_breaks(begin(3), *long_break(3), MISSED_RED, GIVE), [100, 0, 1, 0])
        self.assertEqual(self.big_breaks(begin(3), *long_break(3), stroke(), GIVE), [100, 0, 1, 0])

    def test_one_break_counts_once(self):
        whole = [pot(1), pot(7)] * 15 + [pot(ball) for ball in range(2, 8)]
        self.assertEqual(self.big_breaks(begin(), *whole), [147, 0, 1, 0])

    def test_points_of_two_breaks_are_not_one(self):
        parts = [pot(1), pot(7)] * 10 + [MISSED_RED, MISSED_RED] + [pot(1), pot(7)] * 5
        self.assertEqual(self.big_breaks(begin(), *parts, GIVE), [80, 0, 0, 0])

    def test_two_in_a_match(self):
        calls = [begin(5), *long_break(3), GIVE, MISSED_RED, *long_break(7), GIVE]
        self.assertEqual(self.big_breaks(*calls), [104, 0, 2, 0])
        self.check([2, 1, 1, 100, 0, 100, 0, 1, 1, 104, 0, 104, 0], [0, 5, 0, 2, 104, 0, 2, 0], *calls)

    def test_one_of_each_player(self):
        calls = [begin(5), *long_break(3), GIVE, *long_break(4), GIVE]
        self.assertEqual(self.big_breaks(*calls), [100, 101, 1, 1])

    def test_not_of_the_frame_that_is_being_played(self):
        self.check([0], [0, 3, 0, 0, 0, 0, 0, 0], begin(3), *long_break(7))
        self.check([0], [0, 3, 0, 0, 0, 0, 0, 0], begin(3), *long_break(7), MISSED_RED, pot(1))

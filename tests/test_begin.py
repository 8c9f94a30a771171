import unittest

from tests.helpers import MISSED_RED, all_answers, begin, clearance, last_answer, pot, stroke


class BeginTest(unittest.TestCase):
    def test_odd_numbers_of_frames_are_taken(self):
        for best in (1, 3, 17, 33, 35):
            for first in (0, 1):
                self.assertEqual(last_answer(begin(best, first)), [0])

    def test_other_numbers_of_frames_are_refused(self):
        for best in (-2147483648, -35, -3, -1, 0, 2, 18, 34, 36, 37, 2147483647):
            self.assertEqual(last_answer(begin(best, 0)), [-1], best)

    def test_other_players_are_refused(self):
        for first in (-2147483648, -1, 2, 3, 2147483647):
            self.assertEqual(last_answer(begin(1, first)), [-1], first)

    def test_both_wrong(self):
        self.assertEqual(last_answer(begin(2, 2)), [-1])

    def test_who_is_told_plays_first(self):
        self.assertEqual(last_answer(begin(1, 0), pot(1))[3], 0)
        self.assertEqual(last_answer(begin(1, 1), pot(1))[3], 1)

    def test_a_red_is_on_at_the_beginning(self):
        self.assertEqual(last_answer(begin(), MISSED_RED), [0, 0, 0, 1, 1, 0, 0])

    def test_no_ball_may_be_named_free_at_the_beginning(self):
        self.assertEqual(last_answer(begin(), stroke(hit=2, named=2))[0], 2)

    def test_a_new_match_forgets_the_frame(self):
        given = all_answers(begin(), pot(1), begin(1, 1), stroke(hit=7, potted=[7], named=7))
        self.assertEqual(given[-1], [2, 7, 0, 0, 1, 0, 0])

    def test_a_new_match_forgets_the_frames_won(self):
        calls = [begin(3, 0)] + clearance() + [begin(3, 0)] + clearance()
        self.assertEqual(last_answer(*calls), [1, 7, 1])
        self.assertEqual(last_answer(*calls, MISSED_RED), [0, 0, 0, 0, 1, 0, 0])

    def test_a_new_match_behind_one_that_is_won(self):
        calls = [begin(1, 0)] + clearance() + [MISSED_RED, begin(1, 1), MISSED_RED]
        self.assertEqual(all_answers(*calls)[-3:], [[-2], [0], [0, 0, 0, 0, 1, 0, 0]])

    def test_a_refused_begin_leaves_the_match_as_it_is(self):
        given = all_answers(begin(), pot(1), begin(2, 1), begin(1, 2), pot(7))
        self.assertEqual(given[-1], [1, 7, 0, 0, 1, 0, 0])

    def test_a_refused_begin_begins_nothing(self):
        self.assertEqual(all_answers(begin(4, 0), MISSED_RED), [[-1], [-2]])

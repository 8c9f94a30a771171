import unittest

from tests.helpers import (AGAIN, BACK, FRAMES, GIVE, MATCH, MISSED_RED, NOW, all_answers, begin, clearance, last_answer,
                           pot, stroke, tie_by_foul, tie_by_pot, toss)


class Give(unittest.TestCase):
    def test_the_other_player_has_won(self):
        self.assertEqual(last_answer(begin(3, 0), GIVE), [1])
        self.assertEqual(last_answer(begin(3, 1), GIVE), [0])

    def test_whoever_has_the_turn_gives(self):
        self.assertEqual(last_answer(begin(), pot(1), GIVE), [1])
        self.assertEqual(last_answer(begin(), MISSED_RED, GIVE), [0])
        self.assertEqual(last_answer(begin(), stroke(), GIVE), [0])
        self.assertEqual(last_answer(begin(), stroke(), AGAIN, GIVE), [1])
        self.assertEqual(last_answer(begin(), stroke(miss=1), BACK, GIVE), [1])

    def test_whatever_the_points(self):
        self.assertEqual(last_answer(begin(), pot(1), pot(7), GIVE), [1])
        self.assertEqual(last_answer(begin(), pot(1), pot(7), stroke(hit=1), GIVE), [0])

    def test_behind_the_toss(self):
        for tie in (tie_by_foul(), tie_by_pot()):
            self.assertEqual(last_answer(begin(), *tie, toss(0), GIVE), [1])
            self.assertEqual(last_answer(begin(), *tie, toss(1), GIVE), [0])

    def test_the_next_frame_begins(self):
        given = all_answers(begin(3), pot(1), stroke(named=2, hidden=1), GIVE, NOW, AGAIN)
        self.assertEqual(given[3:], [[0], [1, 0, 0, 15, 1, 0, 147, 0, 0, 0], [-5]])

    def test_the_frames_given_up_win_the_match(self):
        given = all_answers(begin(3), GIVE, MATCH, MISSED_RED, GIVE, MATCH, GIVE)
        self.assertEqual(given[1:], [[1], [0, 3, 0, 1, 0, 0, 0, 0], [0, 0, 0, 0, 1, 0, 0], [1],
                                     [1, 3, 0, 2, 0, 0, 0, 0], [-2]])

    def test_no_frame_is_being_played(self):
        self.assertEqual(last_answer(GIVE), [-2])
        self.assertEqual(last_answer(begin(), *clearance(), GIVE), [-2])
        self.assertEqual(all_answers(begin(), GIVE, GIVE)[1:], [[1], [-2]])
        self.assertEqual(all_answers(begin(2), GIVE), [[-1], [-2]])

    def test_the_black_is_to_be_tossed_for(self):
        for tie in (tie_by_foul(), tie_by_pot()):
            self.assertEqual(last_answer(begin(), *tie, GIVE), [-3])

    def test_refused_it_changes_nothing(self):
        given = all_answers(begin(), *tie_by_foul(), NOW, GIVE, NOW, FRAMES, MATCH)
        self.assertEqual(given[-5], given[-3])
        self.assertEqual(given[-2:], [[0], [0, 1, 0, 0, 0, 0, 0, 0]])

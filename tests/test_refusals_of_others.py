import unittest

from tests.helpers import (AGAIN, BACK, MISSED_RED, all_answers, begin, clearance, last_answer, pot, stroke,
                           tie_by_foul, tie_by_pot, toss)

MISS_1 = stroke(miss=1)
OVER = [begin(1), *clearance()]


class AgainAndBack(unittest.TestCase):
    def check_refused(self, refusal, *calls):
        for call in (AGAIN, BACK):
            self.assertEqual(last_answer(*calls, call), [refusal], call)

    def test_no_frame(self):
        self.check_refused(-2)
        self.check_refused(-2, *OVER)

    def test_no_frame_behind_a_foul_that_ended_the_match(self):
        self.check_refused(-2, begin(), *clearance()[:-1], MISS_1)

    def test_no_stroke_yet(self):
        self.check_refused(-5, begin())
        self.check_refused(-5, begin(), MISS_1, begin())

    def test_no_stroke_yet_in_the_next_frame(self):
        self.check_refused(-5, begin(3), *clearance())
        self.check_refused(-5, begin(3), *clearance()[:-1], MISS_1)
        self.check_refused(-5, begin(3), *[stroke(miss=2), BACK] * 2, stroke(miss=2))

    def test_no_foul(self):
        self.check_refused(-5, begin(), MISSED_RED)
        self.check_refused(-5, begin(), pot(1))
        self.check_refused(-5, begin(), MISS_1, MISSED_RED)
        self.check_refused(-5, begin(), MISS_1, pot(1))

    def test_the_black_is_to_be_tossed_for(self):
        self.check_refused(-5, begin(), *tie_by_foul())
        self.check_refused(-5, begin(), *tie_by_pot())

    def test_the_black_was_tossed_for(self):
        self.check_refused(-5, begin(), *tie_by_foul(), toss(0))
        self.check_refused(-5, begin(), *tie_by_pot(), toss(1))

    def test_done_since(self):
        self.check_refused(-5, begin(), MISS_1, AGAIN)
        self.check_refused(-5, begin(), MISS_1, BACK)

    def test_back_without_a_miss_called(self):
        self.assertEqual(last_answer(begin(), stroke(), BACK), [-5])
        self.assertEqual(last_answer(begin(), stroke(hit=1, conduct=8, miss=2), BACK), [-5])
        self.assertEqual(last_answer(begin(), MISS_1, stroke(), BACK), [-5])

    def test_a_refused_back_leaves_again(self):
        self.assertEqual(all_answers(begin(), stroke(), BACK, AGAIN)[2:], [[-5], [0]])

    def test_refused_they_change_nothing(self):
        calls = [begin(), MISSED_RED, AGAIN, BACK, stroke(hidden=1), BACK]
        self.assertEqual(last_answer(*calls, pot(7)), [1, 1, 0, 0, 0, 0, 0])
        calls = [begin(), MISS_1, BACK, BACK, AGAIN]
        self.assertEqual(last_answer(*calls, pot(1)), [1, 1, 0, 0, 0, 0, 0])


class Toss(unittest.TestCase):
    def test_unknown_players(self):
        for who in (-2147483648, -1, 2, 2147483647):
            self.assertEqual(last_answer(begin(), *tie_by_foul(), toss(who)), [-1])
            self.assertEqual(last_answer(toss(who)), [-1])
            self.assertEqual(last_answer(begin(), toss(who)), [-1])

    def test_no_frame(self):
        for who in (0, 1):
            self.assertEqual(last_answer(toss(who)), [-2])
            self.assertEqual(last_answer(*OVER, toss(who)), [-2])

    def test_nothing_to_toss_for(self):
        for who in (0, 1):
            self.assertEqual(last_answer(begin(), toss(who)), [-5])
            self.assertEqual(last_answer(begin(), *clearance()[:-1], toss(who)), [-5])
            self.assertEqual(last_answer(begin(), *tie_by_foul(), toss(0), toss(who)), [-5])

    def test_refused_it_changes_nothing(self):
        given = all_answers(begin(), *tie_by_foul(), toss(2), pot(7), toss(1), toss(0), stroke(hit=7))
        self.assertEqual(given[-5:], [[-1], [-3], [0], [-5], [0, 0, 0, 0, 7, 0, 0]])
        self.assertEqual(all_answers(begin(), toss(1), pot(1))[1:], [[-5], [1, 1, 0, 0, 0, 0, 0]])

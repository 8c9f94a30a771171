import unittest

from tests.helpers import (BACK, MISSED_RED, TO_YELLOW, all_answers, begin, clearance, last_answer, pot, stroke,
                           tie_by_foul, to_lowest, toss)


class UnknownNumbers(unittest.TestCase):
    def check_refused(self, **told):
        self.assertEqual(last_answer(begin(), stroke(**told)), [-1], told)

    def test_named(self):
        for named in (-2147483648, -1, 8, 2147483647):
            self.check_refused(hit=1, named=named)

    def test_hit(self):
        for hit in (-2147483648, -1, 8, 2147483647):
            self.check_refused(hit=hit)

    def test_conduct(self):
        for conduct in (-2147483648, -1, 9, 2147483647):
            self.check_refused(hit=1, conduct=conduct)

    def test_hidden(self):
        for hidden in (-2147483648, -1, 2, 2147483647):
            self.check_refused(hit=1, hidden=hidden)

    def test_miss(self):
        for miss in (-2147483648, -1, 3, 2147483647):
            self.check_refused(hit=1, miss=miss)

    def test_potted(self):
        for ball in (-2147483648, -1, 8, 2147483647):
            self.check_refused(hit=1, potted=[1, ball])

    def test_off(self):
        for ball in (-2147483648, -1, 8, 2147483647):
            self.check_refused(hit=1, off=[1, ball])

    def test_the_edges_are_taken(self):
        for told in ({"hit": 7}, {"hit": 1, "named": 7}, {"hit": 1, "named": 1}, {"hit": 1, "conduct": 8},
                     {"hit": 1, "hidden": 1}, {"hit": 1, "miss": 2}, {"hit": 1, "potted": [0, 7]},
                     {"hit": 1, "off": [0, 7]}):
            self.assertEqual(len(last_answer(begin(), stroke(**told))), 7, told)


class NoFrame(unittest.TestCase):
    def test_before_a_match(self):
        self.assertEqual(all_answers(MISSED_RED, stroke()), [[-2], [-2]])

    def test_behind_a_match(self):
        self.assertEqual(last_answer(begin(), *clearance(), MISSED_RED), [-2])

    def test_an_unknown_number_is_told_ahead_of_it(self):
        self.assertEqual(last_answer(stroke(hit=8)), [-1])

    def test_it_is_told_ahead_of_what_cannot_have_been(self):
        self.assertEqual(last_answer(stroke(hit=0, potted=[7, 7])), [-2])


class BlackToBeTossedFor(unittest.TestCase):
    def test_the_tie(self):
        self.assertEqual(last_answer(begin(), *tie_by_foul()), [2, 7, 0, 2, 7, 0, 0])

    def test_a_stroke_is_refused(self):
        self.assertEqual(last_answer(begin(), *tie_by_foul(), stroke(hit=7, potted=[7])), [-3])

    def test_an_unknown_number_is_told_ahead_of_it(self):
        self.assertEqual(last_answer(begin(), *tie_by_foul(), stroke(hit=7, miss=3)), [-1])

    def test_it_is_told_ahead_of_what_cannot_have_been(self):
        self.assertEqual(last_answer(begin(), *tie_by_foul(), stroke(hit=2)), [-3])

    def test_none_behind_the_toss(self):
        self.assertEqual(last_answer(begin(), *tie_by_foul(), toss(1), stroke(hit=7)), [0, 0, 0, 0, 7, 0, 0])


class CannotHaveBeen(unittest.TestCase):
    def check_refused(self, calls, **told):
        self.assertEqual(last_answer(begin(), *calls, stroke(**told)), [-4], told)

    def test_a_colour_that_is_gone_is_hit(self):
        self.check_refused(to_lowest(4), hit=3)
        self.check_refused(to_lowest(3), hit=2)
        self.check_refused(to_lowest(7), hit=6)

    def test_a_colour_that_is_gone_is_named(self):
        self.check_refused(to_lowest(4), hit=4, named=3)
        self.check_refused(to_lowest(7), hit=7, named=2)

    def test_a_colour_that_is_there_may_be_named_and_hit(self):
        self.assertEqual(last_answer(begin(), *to_lowest(4), stroke(hit=4, named=4))[0], 0)
        self.assertEqual(last_answer(begin(), *to_lowest(4), stroke(hit=4, named=7))[0], 0)

    def test_a_red_is_hit_where_there_is_none(self):
        self.check_refused(TO_YELLOW, hit=1)
        self.check_refused(TO_YELLOW[:1], hit=1, named=7)

    def test_the_last_red_may_be_hit(self):
        self.assertEqual(last_answer(begin(), stroke(hit=1, potted=[1] * 14), pot(7), MISSED_RED)[0], 0)

    def test_naming_1_is_naming_nothing_where_there_is_no_red(self):
        self.assertEqual(last_answer(begin(), *TO_YELLOW, stroke(hit=2, named=1)), [0, 0, 0, 1, 2, 0, 0])

    def test_more_reds_than_there_are(self):
        self.check_refused([], hit=1, potted=[1] * 16)
        self.check_refused([], hit=1, off=[1] * 16)
        self.check_refused([], hit=1, potted=[1] * 8, off=[1] * 8)
        self.check_refused([], hit=1, potted=[1] * 30)
        self.check_refused([pot(1)], hit=7, named=7, potted=[1] * 15)
        self.check_refused(TO_YELLOW, hit=2, potted=[1])
        self.check_refused(TO_YELLOW, hit=2, off=[1])

    def test_as_many_reds_as_there_are(self):
        self.assertEqual(last_answer(begin(), stroke(hit=1, potted=[1] * 15)), [1, 15, 0, 0, 0, 0, 0])
        self.assertEqual(last_answer(begin(), stroke(hit=1, potted=[1] * 8, off=[1] * 7)), [2, 4, 0, 1, 2, 0, 0])

    def test_a_colour_more_often_than_it_is_there(self):
        self.check_refused([], hit=1, potted=[7, 7])
        self.check_refused([], hit=1, off=[2, 2])
        self.check_refused([], hit=1, potted=[5], off=[5])
        self.check_refused(to_lowest(4), hit=4, potted=[3])
        self.check_refused(to_lowest(4), hit=4, off=[2])

    def test_the_white_more_often_than_it_is_there(self):
        self.check_refused([], hit=1, potted=[0, 0])
        self.check_refused([], hit=1, off=[0, 0])
        self.check_refused([], hit=1, potted=[0], off=[0])
        self.check_refused([], hit=0, potted=[0], off=[0])

    def test_nothing_is_hit_and_a_ball_is_gone(self):
        for ball in (1, 2, 7):
            self.check_refused([], hit=0, potted=[ball])
            self.check_refused([], hit=0, off=[ball])
            self.check_refused([], hit=0, potted=[0, ball])

    def test_nothing_is_hit_and_the_white_is_gone(self):
        self.assertEqual(last_answer(begin(), stroke(potted=[0])), [2, 4, 0, 1, 1, 0, 0])
        self.assertEqual(last_answer(begin(), stroke(off=[0])), [2, 4, 0, 1, 1, 0, 0])

    def test_conduct_may_be_about_a_ball_that_is_gone(self):
        self.assertEqual(last_answer(begin(), *to_lowest(4), stroke(hit=4, conduct=2))[:2], [2, 4])

    def test_an_unknown_number_is_told_ahead_of_it(self):
        self.assertEqual(last_answer(begin(), stroke(hit=0, potted=[7], conduct=9)), [-1])


class RefusalsChangeNothing(unittest.TestCase):
    def test_a_refused_stroke_leaves_all_as_it_was(self):
        refused = [stroke(hit=9), stroke(hit=0, potted=[1]), stroke(hit=1, potted=[1] * 16), stroke(hit=1, off=[0, 0])]
        given = all_answers(begin(), pot(1), *refused, pot(7), *refused, pot(1))
        self.assertEqual([given[1], given[6], given[11]],
                         [[1, 1, 0, 0, 0, 0, 0], [1, 7, 0, 0, 1, 0, 0], [1, 1, 0, 0, 0, 0, 0]])

    def test_a_refused_stroke_is_no_next_stroke_behind_a_foul(self):
        given = all_answers(begin(), stroke(hidden=1, miss=1), stroke(hit=8), stroke(potted=[1]), BACK)
        self.assertEqual(given[1:], [[2, 4, 0, 1, 1, 1, 1], [-1], [-4], [0]])

    def test_a_free_ball_stays_behind_a_refused_stroke(self):
        given = all_answers(begin(), stroke(hidden=1), stroke(hit=5, named=5, off=[5, 5]), pot(5))
        self.assertEqual(given[1:], [[2, 4, 0, 1, 1, 1, 0], [-4], [1, 1, 0, 1, 0, 0, 0]])

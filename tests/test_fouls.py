import unittest

from tests.helpers import MISSED_RED, TO_YELLOW, all_answers, begin, last_answer, pot, stroke, to_lowest

FREE = [stroke(hidden=1)]


class FoulCase(unittest.TestCase):
    def check_foul(self, cost, calls, **told):
        given = last_answer(begin(), *calls, stroke(**told))
        self.assertEqual(given[:2], [2, cost], told)

    def check_fair(self, made, calls, **told):
        given = last_answer(begin(), *calls, stroke(**told))
        self.assertEqual(given[:2], [1 if made > 0 else 0, made], told)


class WhileARedIsOn(FoulCase):
    def test_nothing_is_hit(self):
        self.check_foul(4, [], hit=0)

    def test_a_colour_is_hit(self):
        for ball, cost in ((2, 4), (3, 4), (4, 4), (5, 5), (6, 6), (7, 7)):
            self.check_foul(cost, [], hit=ball)
            self.check_foul(cost, [], hit=ball, named=ball)

    def test_a_name_says_nothing(self):
        self.check_foul(4, [], hit=0, named=7)
        self.check_fair(0, [], hit=1, named=7)

    def test_a_colour_is_potted(self):
        for ball, cost in ((2, 4), (4, 4), (5, 5), (6, 6), (7, 7)):
            self.check_foul(cost, [], hit=1, potted=[ball])
            self.check_foul(cost, [], hit=1, potted=[1, ball])
            self.check_foul(cost, [], hit=1, potted=[ball], named=ball)

    def test_the_white_is_potted(self):
        self.check_foul(4, [], hit=1, potted=[0])
        self.check_foul(4, [], hit=1, potted=[1, 0])

    def test_a_ball_left_the_table(self):
        for ball, cost in ((0, 4), (1, 4), (4, 4), (5, 5), (7, 7)):
            self.check_foul(cost, [], hit=1, off=[ball])
            self.check_foul(cost, [], hit=1, potted=[1], off=[ball])

    def test_conduct(self):
        for conduct, cost in ((1, 4), (2, 4), (4, 4), (5, 5), (6, 6), (7, 7), (8, 4)):
            self.check_foul(cost, [], hit=1, conduct=conduct)
            self.check_foul(cost, [], hit=1, potted=[1], conduct=conduct)

    def test_the_greatest_counts_once(self):
        self.check_foul(7, [], hit=5, potted=[6, 7], off=[4], conduct=5)
        self.check_foul(6, [], hit=5, potted=[6, 0], off=[4], conduct=5)
        self.check_foul(7, [], hit=5, potted=[6], off=[4, 7], conduct=5)
        self.check_foul(7, [], hit=5, potted=[6], off=[4], conduct=7)
        self.check_foul(7, [], hit=7, potted=[6], off=[4], conduct=8)


class WhileAColourIsOn(FoulCase):
    RED = [pot(1)]

    def test_another_colour_is_hit(self):
        self.check_foul(4, self.RED, hit=3, named=2)
        self.check_foul(6, self.RED, hit=6, named=2)
        self.check_foul(6, self.RED, hit=2, named=6)

    def test_a_red_is_hit(self):
        self.check_foul(4, self.RED, hit=1, named=2)
        self.check_foul(5, self.RED, hit=1, named=5)

    def test_nothing_is_hit(self):
        self.check_foul(4, self.RED, hit=0, named=4)
        self.check_foul(7, self.RED, hit=0, named=7)

    def test_nothing_is_named(self):
        for named in (0, 1):
            self.check_foul(7, self.RED, hit=2, named=named)
            self.check_foul(7, self.RED, hit=1, named=named)
            self.check_foul(7, self.RED, hit=0, named=named)
            self.check_foul(7, self.RED, hit=2, potted=[2], named=named)

    def test_a_red_is_potted(self):
        self.check_foul(4, self.RED, hit=3, potted=[1], named=3)
        self.check_foul(5, self.RED, hit=5, potted=[5, 1], named=5)

    def test_another_colour_is_potted(self):
        self.check_foul(6, self.RED, hit=3, potted=[6], named=3)
        self.check_foul(6, self.RED, hit=6, potted=[6, 3], named=6)

    def test_the_colour_named_left_the_table(self):
        self.check_foul(6, self.RED, hit=6, off=[6], named=6)


class WhileTheLowestIsOn(FoulCase):
    def test_another_colour_is_hit(self):
        self.check_foul(7, TO_YELLOW, hit=7)
        self.check_foul(7, TO_YELLOW, hit=7, named=7)
        self.check_foul(5, to_lowest(5), hit=0)
        self.check_foul(6, to_lowest(6), hit=0)

    def test_the_lowest_is_worth_its_own(self):
        self.check_foul(4, TO_YELLOW, hit=0)
        self.check_foul(4, to_lowest(4), hit=0)
        self.check_foul(6, to_lowest(6), hit=6, potted=[0])

    def test_a_name_says_nothing(self):
        self.check_foul(4, TO_YELLOW, hit=0, named=7)
        self.check_fair(2, TO_YELLOW, hit=2, potted=[2], named=7)

    def test_another_colour_is_potted(self):
        self.check_foul(5, TO_YELLOW, hit=2, potted=[5])
        self.check_foul(5, TO_YELLOW, hit=2, potted=[2, 5])


class WithAFreeBall(FoulCase):
    def test_another_ball_is_hit(self):
        self.check_foul(4, FREE, hit=1, named=7)
        self.check_foul(5, FREE, hit=5, named=7)
        self.check_foul(7, FREE, hit=7, named=5)
        self.check_foul(4, FREE, hit=0, named=7)

    def test_the_ball_that_is_free_costs_no_more_than_what_it_stands_for(self):
        self.check_foul(4, FREE, hit=7, potted=[0], named=7)
        self.check_foul(4, FREE, hit=7, potted=[7, 0], named=7)

    def test_another_ball_is_potted(self):
        self.check_foul(6, FREE, hit=2, potted=[6], named=2)
        self.check_foul(6, FREE, hit=2, potted=[2, 1, 6], named=2)

    def test_the_ball_that_is_free_left_the_table(self):
        self.check_foul(7, FREE, hit=7, off=[7], named=7)

    def test_no_colour_may_be_hit_without_a_name(self):
        self.check_foul(7, FREE, hit=7)
        self.check_foul(7, FREE, hit=7, named=1)
        self.check_fair(0, FREE, hit=1)

    def test_while_the_lowest_is_on(self):
        calls = to_lowest(3) + [stroke(hidden=1)]
        self.check_foul(4, calls, hit=3, named=7)
        self.check_foul(5, calls, hit=5, named=7)
        self.check_foul(4, calls, hit=0, named=7)
        self.check_fair(0, calls, hit=3, named=3)
        self.check_foul(7, calls, hit=7, named=3)


class BehindAFoul(unittest.TestCase):
    def test_the_other_plays_a_red(self):
        self.assertEqual(last_answer(begin(1, 1), stroke(hit=7)), [2, 7, 0, 0, 1, 0, 0])

    def test_a_break_is_over_and_a_red_is_on(self):
        self.assertEqual(last_answer(begin(), pot(1), stroke(hit=1, named=7)), [2, 7, 0, 1, 1, 0, 0])

    def test_reds_potted_at_a_foul_are_gone(self):
        calls = [begin(), stroke(hit=1, potted=[0] + [1] * 15)]
        self.assertEqual(last_answer(*calls), [2, 4, 0, 1, 2, 0, 0])
        self.assertEqual(last_answer(*calls, MISSED_RED), [-4])

    def test_reds_off_the_table_are_gone(self):
        calls = [begin(), stroke(hit=1, off=[1] * 14)]
        self.assertEqual(last_answer(*calls), [2, 4, 0, 1, 1, 0, 0])
        self.assertEqual(last_answer(*calls, stroke(hit=1, potted=[1, 1])), [-4])
        self.assertEqual(last_answer(*calls, pot(1)), [1, 1, 0, 1, 0, 0, 0])

    def test_colours_come_back(self):
        calls = [begin(), stroke(hit=1, potted=[2, 6], off=[5]), pot(1)]
        for ball in (2, 5, 6):
            self.assertEqual(last_answer(*calls, pot(ball))[:2], [1, ball])

    def test_the_lowest_potted_at_a_foul_comes_back(self):
        for told in ({"potted": [3, 0]}, {"off": [3]}, {"potted": [3], "conduct": 8}):
            calls = [begin(), *to_lowest(3), stroke(hit=3, **told)]
            self.assertEqual(last_answer(*calls), [2, 4, 0, 1, 3, 0, 0])
            self.assertEqual(last_answer(*calls, pot(3)), [1, 3, 0, 1, 4, 0, 0])

    def test_the_white_comes_back(self):
        self.assertEqual(last_answer(begin(), stroke(potted=[0]), stroke(potted=[0])), [2, 4, 0, 0, 1, 0, 0])

    def test_nothing_made_counts(self):
        given = all_answers(begin(), stroke(hit=1, potted=[1, 0]), pot(1))
        self.assertEqual(given[1:], [[2, 4, 0, 1, 1, 0, 0], [1, 1, 0, 1, 0, 0, 0]])

    def test_a_ball_may_be_named_free_if_hidden(self):
        self.assertEqual(last_answer(begin(), stroke(hidden=1)), [2, 4, 0, 1, 1, 1, 0])
        self.assertEqual(last_answer(begin(), stroke(hidden=0)), [2, 4, 0, 1, 1, 0, 0])
        self.assertEqual(last_answer(begin(), *to_lowest(6), stroke(hidden=1)), [2, 6, 0, 1, 6, 1, 0])

    def test_hidden_says_nothing_without_a_foul(self):
        self.assertEqual(last_answer(begin(), stroke(hit=1, hidden=1)), [0, 0, 0, 1, 1, 0, 0])
        self.assertEqual(last_answer(begin(), stroke(hit=1, potted=[1], hidden=1)), [1, 1, 0, 0, 0, 0, 0])

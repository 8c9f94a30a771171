import unittest

from tests.helpers import TO_YELLOW, all_answers, begin, last_answer, pot, stroke, to_lowest


class RedsAndColours(unittest.TestCase):
    def test_nothing_potted(self):
        self.assertEqual(all_answers(begin(), stroke(hit=1), stroke(hit=1))[1:],
                         [[0, 0, 0, 1, 1, 0, 0], [0, 0, 0, 0, 1, 0, 0]])

    def test_one_red(self):
        self.assertEqual(last_answer(begin(), pot(1)), [1, 1, 0, 0, 0, 0, 0])

    def test_several_reds(self):
        self.assertEqual(last_answer(begin(), stroke(hit=1, potted=[1, 1, 1])), [1, 3, 0, 0, 0, 0, 0])

    def test_each_colour(self):
        for ball in range(2, 8):
            self.assertEqual(last_answer(begin(), pot(1), pot(ball)), [1, ball, 0, 0, 1, 0, 0])

    def test_a_colour_comes_back(self):
        self.assertEqual(last_answer(begin(), pot(1), pot(7), pot(1), pot(7)), [1, 7, 0, 0, 1, 0, 0])

    def test_a_colour_hit_and_not_potted(self):
        self.assertEqual(last_answer(begin(), pot(1), stroke(hit=5, named=5)), [0, 0, 0, 1, 1, 0, 0])

    def test_a_red_potted_is_gone(self):
        calls = [begin(), pot(1), pot(2)]
        self.assertEqual(last_answer(*calls, stroke(hit=1, potted=[1] * 15)), [-4])
        self.assertEqual(last_answer(*calls, stroke(hit=1, potted=[1] * 14)), [1, 14, 0, 0, 0, 0, 0])

    def test_behind_the_last_red_a_colour_is_on_and_comes_back(self):
        calls = [begin(), stroke(hit=1, potted=[1] * 15), pot(2)]
        self.assertEqual(all_answers(*calls)[1:], [[1, 15, 0, 0, 0, 0, 0], [1, 2, 0, 0, 2, 0, 0]])
        self.assertEqual(last_answer(*calls, pot(2)), [1, 2, 0, 0, 3, 0, 0])

    def test_behind_the_last_red_a_colour_is_not_potted(self):
        self.assertEqual(last_answer(begin(), TO_YELLOW[0], stroke(hit=7, named=7)), [0, 0, 0, 1, 2, 0, 0])


class TheLowest(unittest.TestCase):
    def test_in_their_order(self):
        given = all_answers(begin(), *to_lowest(7))
        self.assertEqual(given[-5:], [[1, ball, 0, 0, ball + 1, 0, 0] for ball in range(2, 7)])

    def test_not_potted(self):
        self.assertEqual(last_answer(begin(), *to_lowest(4), stroke(hit=4)), [0, 0, 0, 1, 4, 0, 0])
        self.assertEqual(last_answer(begin(), *to_lowest(7), stroke(hit=7)), [0, 0, 0, 1, 7, 0, 0])

    def test_it_need_not_be_named(self):
        self.assertEqual(last_answer(begin(), *to_lowest(4), stroke(hit=4, potted=[4])), [1, 4, 0, 0, 5, 0, 0])


class FreeForARed(unittest.TestCase):
    CALLS = [begin(), stroke(hidden=1)]

    def check(self, answer, **told):
        self.assertEqual(last_answer(*self.CALLS, stroke(**told)), answer, told)

    def test_hit(self):
        for ball in range(2, 8):
            self.check([0, 0, 0, 0, 1, 0, 0], hit=ball, named=ball)

    def test_potted_alone(self):
        for ball in range(2, 8):
            self.check([1, 1, 0, 1, 0, 0, 0], hit=ball, potted=[ball], named=ball)

    def test_potted_with_reds(self):
        self.check([1, 2, 0, 1, 0, 0, 0], hit=7, potted=[7, 1], named=7)
        self.check([1, 4, 0, 1, 0, 0, 0], hit=7, potted=[1, 1, 7, 1], named=7)

    def test_a_red_potted_alone(self):
        self.check([1, 1, 0, 1, 0, 0, 0], hit=7, potted=[1], named=7)

    def test_it_comes_back(self):
        self.assertEqual(last_answer(*self.CALLS, pot(7), pot(7)), [1, 7, 0, 1, 1, 0, 0])

    def test_no_red_is_gone_with_it(self):
        self.assertEqual(last_answer(*self.CALLS, pot(7), pot(7), stroke(hit=1, potted=[1] * 15))[:2], [1, 15])

    def test_it_is_free_for_one_stroke(self):
        self.assertEqual(last_answer(*self.CALLS, stroke(hit=7, named=7), stroke(hit=7, named=7)),
                         [2, 7, 0, 1, 1, 0, 0])
        self.assertEqual(last_answer(*self.CALLS, stroke(hit=1), stroke(hit=7, named=7))[:2], [2, 7])

    def test_a_foul_with_hidden_gives_it_again(self):
        self.assertEqual(last_answer(*self.CALLS, stroke(hidden=1), stroke(hit=7, potted=[7], named=7)),
                         [1, 1, 0, 0, 0, 0, 0])


class FreeForTheLowest(unittest.TestCase):
    CALLS = [begin(), *to_lowest(4), stroke(hidden=1)]

    def check(self, answer, **told):
        self.assertEqual(last_answer(*self.CALLS, stroke(**told)), answer, told)

    def test_hit(self):
        self.check([0, 0, 0, 0, 4, 0, 0], hit=7, named=7)

    def test_potted_alone_it_is_worth_the_lowest_and_comes_back(self):
        self.check([1, 4, 0, 1, 4, 0, 0], hit=7, potted=[7], named=7)

    def test_the_lowest_potted_by_it(self):
        self.check([1, 4, 0, 1, 5, 0, 0], hit=7, potted=[4], named=7)

    def test_both_potted_count_once(self):
        self.check([1, 4, 0, 1, 5, 0, 0], hit=7, potted=[7, 4], named=7)
        self.check([1, 4, 0, 1, 5, 0, 0], hit=5, potted=[4, 5], named=5)

    def test_the_lowest_itself_is_not_free(self):
        self.check([1, 4, 0, 1, 5, 0, 0], hit=4, potted=[4], named=4)

    def test_the_lowest_may_be_played_without_a_name(self):
        for named in (0, 1):
            self.check([1, 4, 0, 1, 5, 0, 0], hit=4, potted=[4], named=named)

    def test_the_black_free_for_the_pink_comes_back(self):
        calls = [begin(), *to_lowest(6), stroke(hidden=1)]
        self.assertEqual(last_answer(*calls, pot(7)), [1, 6, 0, 1, 6, 0, 0])
        self.assertEqual(last_answer(*calls, stroke(hit=7, potted=[6, 7], named=7)), [1, 6, 0, 1, 7, 0, 0])

import unittest

from tests.helpers import (AGAIN, BACK, FOUL_OF_7, MISSED_RED, TO_YELLOW, all_answers, begin, last_answer, pot, stroke,
                           to_lowest)

MISS_1 = stroke(miss=1)
MISS_2 = stroke(miss=2)


def called(*calls):
    return last_answer(*calls)[6]


class Called(unittest.TestCase):
    def test_at_a_foul_with_the_ball_not_rightly_hit(self):
        self.assertEqual(called(begin(), MISS_1), 1)
        self.assertEqual(called(begin(), MISS_2), 1)
        self.assertEqual(called(begin(), stroke(hit=5, miss=1)), 1)
        self.assertEqual(called(begin(), stroke(hit=0, potted=[0], miss=2)), 1)
        self.assertEqual(called(begin(), pot(1), stroke(hit=1, named=5, miss=1)), 1)

    def test_not_if_the_referee_does_not_hold_so(self):
        self.assertEqual(called(begin(), stroke(hit=5, miss=0)), 0)

    def test_not_without_a_foul(self):
        self.assertEqual(called(begin(), stroke(hit=1, miss=2)), 0)
        self.assertEqual(called(begin(), stroke(hit=1, potted=[1], miss=2)), 0)

    def test_not_if_rightly_hit(self):
        self.assertEqual(called(begin(), stroke(hit=1, potted=[0], miss=2)), 0)
        self.assertEqual(called(begin(), stroke(hit=1, conduct=7, miss=1)), 0)
        self.assertEqual(called(begin(), pot(1), stroke(hit=5, named=5, off=[5], miss=1)), 0)

    def test_with_a_free_ball(self):
        self.assertEqual(called(begin(), stroke(hidden=1), stroke(hit=1, named=7, miss=1)), 1)
        self.assertEqual(called(begin(), stroke(hidden=1), stroke(hit=7, named=7, potted=[0], miss=1)), 0)

    def test_not_with_the_black_alone(self):
        # 42 to 35, so nobody is behind by more than the black: only that it lies alone keeps the miss away.
        calls = [begin(), *[FOUL_OF_7, MISSED_RED] * 5, *to_lowest(7)]
        self.assertEqual(last_answer(*calls, MISS_2), [2, 7, 0, 2, 7, 0, 0])

    def test_with_pink_and_black(self):
        calls = [begin(), *[FOUL_OF_7, MISSED_RED] * 5, *to_lowest(6)]
        self.assertEqual(last_answer(*calls, MISS_2), [2, 6, 0, 1, 6, 0, 1])


class TooFarBehind(unittest.TestCase):
    # All reds at once and no colour: 15 to 0, player 1's turn, 27 left.
    FIFTEEN = [begin(), stroke(hit=1, potted=[1] * 15), stroke(hit=7, named=7)]

    def test_as_much_as_is_left_ahead_of_the_stroke(self):
        # 27 to 0 and 27 left; behind a foul of 4 by player 0, 27 to 4.
        calls = [*self.FIFTEEN, stroke(), stroke(hit=2), stroke(), stroke(hit=2), stroke(), stroke(hit=2)]
        self.assertEqual(last_answer(*calls), [0, 0, 0, 1, 2, 0, 0])
        self.assertEqual(called(*calls, stroke(hit=2), MISS_1), 1)

    def test_more_than_is_left_ahead_of_the_stroke(self):
        # 28 to 0 and 27 left; a foul of 4 by player 0 would bring 28 to 4.
        calls = [*self.FIFTEEN, stroke(hit=5), stroke(hit=2), stroke(), stroke(hit=2), stroke(), stroke(hit=2)]
        self.assertEqual(called(*calls, stroke(hit=2), MISS_1), 0)

    def test_as_much_as_is_left_behind_the_stroke(self):
        # 23 to 0; a foul of 4 by player 1 brings 27 to 0.
        calls = [*self.FIFTEEN, stroke(), stroke(hit=2), stroke(), stroke(hit=2)]
        self.assertEqual(called(*calls, MISS_1), 1)

    def test_more_than_is_left_behind_the_stroke(self):
        # 23 to 0; a foul of 5 by player 1 brings 28 to 0.
        calls = [*self.FIFTEEN, stroke(), stroke(hit=2), stroke(), stroke(hit=2)]
        self.assertEqual(called(*calls, stroke(hit=5, miss=1)), 0)

    def test_either_player(self):
        # 44 to 0: player 0 is far ahead and fouls themselves, pink and black are left.
        calls = [begin(), *to_lowest(6)]
        self.assertEqual(called(*calls, MISS_1), 0)
        self.assertEqual(called(*calls, stroke(hit=6), MISS_1), 0)

    def test_reds_count_8_each_and_27(self):
        # 14 to 0 behind the reds, 1 red: 35 left. Three fouls of 7 bring 35 to 0.
        calls = [begin(), stroke(hit=1, potted=[1] * 14), stroke(hit=7, named=7)]
        calls += [FOUL_OF_7, MISSED_RED, FOUL_OF_7, MISSED_RED]
        self.assertEqual(called(*calls, stroke(hit=7, miss=1)), 1)
        # 36 to 0 is more than the 35 that are left.
        calls[-4:-2] = [FOUL_OF_7, MISSED_RED, stroke(), MISSED_RED]
        self.assertEqual(called(*calls, MISS_1), 0)

    def test_a_colour_that_is_on_counts_7_more(self):
        # 34 or 35 to 0, no red, a colour on: 34 left. Behind the foul 27 are left, and 27 or 28 between them.
        for colours, is_called in (([7, 7, 5], 1), ([7, 7, 6], 0)):
            self.assertEqual(self.called_at_a_colour(colours, 12), is_called)
        # 42 or 43 to 0, one red, a colour on: 42 left.
        for colours, is_called in (([7, 7, 7, 7], 1), ([7, 7, 7, 4, 4], 0)):
            self.assertEqual(self.called_at_a_colour(colours, 14 - len(colours)), is_called)

    def called_at_a_colour(self, colours, reds):
        calls = []
        for colour in colours:
            calls += [pot(1), pot(colour)]
        return called(begin(), *calls, stroke(hit=1, potted=[1] * reds), stroke(hit=6, named=7, miss=1))

    def test_a_colour_that_is_on_is_left_only_ahead_of_the_stroke(self):
        # 15 to 35, no red, a colour on; behind the foul 15 to 42 is 27 behind, and 27 are left.
        calls = [begin(), *[FOUL_OF_7, MISSED_RED] * 5, stroke(hit=1, potted=[1] * 15)]
        self.assertEqual(called(*calls, stroke(hit=6, named=7, miss=1)), 1)
        # 15 to 42; behind the foul 15 to 49 is 34 behind.
        calls = [begin(), *[FOUL_OF_7, MISSED_RED] * 6, stroke(hit=1, potted=[1] * 15)]
        self.assertEqual(called(*calls, stroke(hit=6, named=7, miss=1)), 0)

    def test_reds_that_are_gone_by_the_foul_are_not_left(self):
        # 0 to 28, 15 reds: behind the foul of 7 there are 35 to 0 and one red, or none.
        calls = [begin(), *[FOUL_OF_7, MISSED_RED] * 4]
        self.assertEqual(called(*calls, stroke(hit=7, potted=[1] * 14, miss=1)), 1)
        self.assertEqual(called(*calls, stroke(hit=7, potted=[1] * 15, miss=1)), 0)
        self.assertEqual(called(*calls, stroke(hit=7, off=[1] * 15, miss=1)), 0)

    def test_the_colours_on_the_table_count(self):
        # Player 0 makes 27 with yellow and green gone (22 left), player 1 has none, 5, or 7.
        clear = to_lowest(4)
        self.assertEqual(called(begin(), *clear, MISS_1), 0)
        self.assertEqual(called(begin(), stroke(hit=5), MISSED_RED, *clear, MISS_1), 1)
        self.assertEqual(called(begin(), stroke(), MISSED_RED, *clear, MISS_1), 0)


class Again(unittest.TestCase):
    def test_the_one_who_fouled_plays(self):
        self.assertEqual(last_answer(begin(), stroke(), AGAIN), [0])
        self.assertEqual(last_answer(begin(1, 1), stroke(), AGAIN), [1])
        self.assertEqual(last_answer(begin(), stroke(), AGAIN, pot(1)), [1, 1, 0, 0, 0, 0, 0])

    def test_from_where_all_lies(self):
        calls = [begin(), stroke(hit=7, potted=[1] * 15), AGAIN]
        self.assertEqual(last_answer(*calls, stroke(hit=1)), [-4])
        self.assertEqual(last_answer(*calls, pot(2)), [1, 2, 0, 0, 3, 0, 0])

    def test_a_colour_is_no_more_on(self):
        self.assertEqual(last_answer(begin(), pot(1), stroke(named=5), AGAIN, pot(1)), [1, 1, 0, 0, 0, 0, 0])

    def test_no_ball_may_be_named_free(self):
        self.assertEqual(last_answer(begin(), stroke(hidden=1), AGAIN, pot(7)), [2, 7, 0, 1, 1, 0, 0])

    def test_with_a_miss_called(self):
        self.assertEqual(last_answer(begin(), MISS_1, AGAIN), [0])

    def test_behind_the_next_foul_too(self):
        self.assertEqual(last_answer(begin(), stroke(), AGAIN, stroke(), AGAIN), [0])
        self.assertEqual(last_answer(begin(), stroke(), stroke(), AGAIN), [1])


class Back(unittest.TestCase):
    def test_the_one_who_fouled_plays(self):
        self.assertEqual(last_answer(begin(), MISS_1, BACK), [0])
        self.assertEqual(last_answer(begin(1, 1), MISS_2, BACK), [1])
        self.assertEqual(last_answer(begin(), MISS_1, BACK, MISSED_RED), [0, 0, 0, 1, 1, 0, 0])

    def test_reds_are_there_again(self):
        calls = [begin(), stroke(hit=7, potted=[1] * 10, off=[1], miss=1)]
        self.assertEqual(last_answer(*calls, stroke(hit=1, potted=[1] * 5)), [-4])
        self.assertEqual(last_answer(*calls, BACK, stroke(hit=1, potted=[1] * 15)), [1, 15, 0, 0, 0, 0, 0])

    def test_a_colour_is_on_again(self):
        calls = [begin(), pot(1), stroke(hit=1, potted=[1], named=6, miss=1), BACK]
        self.assertEqual(last_answer(*calls, pot(5)), [1, 5, 0, 0, 1, 0, 0])
        self.assertEqual(last_answer(*calls, stroke(hit=1)), [2, 7, 0, 1, 1, 0, 0])

    def test_a_colour_is_on_again_behind_the_last_red(self):
        calls = [begin(), TO_YELLOW[0], stroke(hit=6, named=7, miss=1), BACK]
        self.assertEqual(last_answer(*calls, pot(7)), [1, 7, 0, 0, 2, 0, 0])

    def test_the_lowest_is_on_again(self):
        # 22 to 7, all colours are left.
        calls = [begin(), FOUL_OF_7, MISSED_RED, *TO_YELLOW, stroke(hit=7, potted=[2], miss=1), BACK]
        self.assertEqual(last_answer(*calls, pot(2)), [1, 2, 0, 0, 3, 0, 0])

    def test_points_stay(self):
        # 35 for player 1 by fouls that were put back: at 42 to 42 the black is tossed for.
        fouls = [stroke(hit=7, miss=1), BACK] * 5
        self.assertEqual(last_answer(begin(), *fouls, *to_lowest(7), FOUL_OF_7), [2, 7, 0, 2, 7, 0, 0])

    def test_no_ball_may_be_named_free(self):
        self.assertEqual(last_answer(begin(), stroke(hidden=1, miss=1), BACK, pot(7)), [2, 7, 0, 1, 1, 0, 0])

    def test_none_though_one_might_be_named_ahead_of_the_foul(self):
        calls = [begin(), stroke(hidden=1), stroke(hit=6, named=7, miss=1), BACK]
        self.assertEqual(last_answer(*calls, pot(7)), [2, 7, 0, 0, 1, 0, 0])


class ThreeMisses(unittest.TestCase):
    PUT_BACK = [MISS_2, BACK]

    def test_the_third_loses_the_frame(self):
        calls = [begin(3), *self.PUT_BACK * 2, MISS_2]
        self.assertEqual(last_answer(*calls), [2, 4, 1])
        # The next frame is played by the other one first; the frame was won by player 1.
        self.assertEqual(last_answer(*calls, pot(1)), [1, 1, 0, 1, 0, 0, 0])
        lost_again = [MISSED_RED, *self.PUT_BACK * 2, stroke(hit=7, miss=2)]
        self.assertEqual(last_answer(*calls, *lost_again), [2, 7, 1])
        self.assertEqual(last_answer(*calls, *lost_again, MISSED_RED), [-2])

    def test_the_one_with_more_points_loses_it_too(self):
        calls = [begin(1), *[pot(1), pot(7)] * 3, *self.PUT_BACK * 2, MISS_2]
        self.assertEqual(all_answers(*calls, MISSED_RED)[-2:], [[2, 4, 1], [-2]])

    def test_the_second_does_not(self):
        self.assertEqual(last_answer(begin(), *self.PUT_BACK, MISS_2), [2, 4, 0, 1, 1, 0, 1])

    def test_not_if_one_is_of_kind_1(self):
        for kinds in ([1, 2, 2], [2, 1, 2], [2, 2, 1]):
            calls = [[stroke(miss=kind), BACK] for kind in kinds]
            given = last_answer(begin(), *calls[0], *calls[1], calls[2][0])
            self.assertEqual(given, [2, 4, 0, 1, 1, 0, 1], kinds)

    def test_not_if_one_is_not_called(self):
        rightly = stroke(hit=1, potted=[0], miss=2)
        self.assertEqual(last_answer(begin(), *self.PUT_BACK * 2, rightly), [2, 4, 0, 1, 1, 0, 0])

    def test_not_if_the_first_was_not_put_back(self):
        self.assertEqual(last_answer(begin(), MISS_2, AGAIN, MISS_2, BACK, MISS_2), [2, 4, 0, 1, 1, 0, 1])

    def test_not_if_the_second_was_not_put_back(self):
        self.assertEqual(last_answer(begin(), MISS_2, BACK, MISS_2, AGAIN, MISS_2), [2, 4, 0, 1, 1, 0, 1])

    def test_not_if_the_other_played_between(self):
        calls = [*self.PUT_BACK, MISS_2, MISSED_RED, MISS_2]
        self.assertEqual(last_answer(begin(), *calls), [2, 4, 0, 1, 1, 0, 1])
        self.assertEqual(last_answer(begin(), *calls, BACK, MISS_2), [2, 4, 0, 1, 1, 0, 1])

    def test_not_if_a_stroke_without_a_foul_was_between(self):
        calls = [*self.PUT_BACK * 2, pot(1), stroke(named=2, miss=2)]
        self.assertEqual(last_answer(begin(), *calls), [2, 4, 0, 1, 1, 0, 1])
        self.assertEqual(last_answer(begin(), *calls, BACK, stroke(named=2, miss=2)), [2, 4, 0, 1, 1, 0, 1])

    def test_not_if_each_player_missed(self):
        calls = [*self.PUT_BACK, MISS_2, *self.PUT_BACK, MISS_2]
        self.assertEqual(last_answer(begin(), *calls), [2, 4, 0, 0, 1, 0, 1])

    def test_three_behind_one_that_was_not_put_back(self):
        calls = [MISS_2, AGAIN, *self.PUT_BACK * 2, MISS_2]
        self.assertEqual(last_answer(begin(), *calls), [2, 4, 1])

    def test_three_behind_one_of_kind_1(self):
        calls = [MISS_1, BACK, *self.PUT_BACK * 2, MISS_2]
        self.assertEqual(last_answer(begin(), *calls), [2, 4, 1])

    def test_a_new_frame_counts_anew(self):
        calls = [begin(3), *self.PUT_BACK * 2, MISS_2, *self.PUT_BACK]
        self.assertEqual(last_answer(*calls, MISS_2), [2, 4, 0, 0, 1, 0, 1])

import contextlib
import io
import unittest

from cuereferee.matches import answers
from tests.helpers import (AGAIN, BACK, FRAMES, GIVE, MATCH, MISSED_RED, NOW, begin, clearance, joined, pot, stroke,
                           tie_by_foul, toss)

EVERYTHING = [FRAMES, MATCH, begin(3), stroke(hidden=1, miss=2), BACK, stroke(hit=7, potted=[1, 7], off=[0], miss=1),
              AGAIN, NOW, MISSED_RED, *clearance(), *tie_by_foul(), GIVE, NOW, toss(1), stroke(hit=7, potted=[7]),
              toss(3), begin(2), NOW, pot(1), GIVE, FRAMES, MATCH]


class Watched(list):
    """A list that does not let itself be changed, not for a while either."""

    def refuse(self, *args, **kwargs):
        raise AssertionError("the list handed in is changed")

    __setitem__ = __delitem__ = __iadd__ = __imul__ = refuse
    append = extend = insert = pop = remove = clear = sort = reverse = refuse


class Interface(unittest.TestCase):
    def test_each_answer_has_its_length_before_it(self):
        calls = joined([[1, 1, 0], [2, 0, 1, 0, 0, 0, 1, 1, 0], [2, 7, 7, 0, 0, 0, 1, 7, 1, 0],
                        [3], [4], [5, 0], [5, 9]])
        self.assertEqual(answers(calls), [1, 0, 7, 1, 1, 0, 0, 0, 0, 0, 7, 2, 7, 0, 1, 1, 0, 0,
                                          1, 0, 1, -5, 1, -5, 1, -1])

    def test_three_numbers_if_the_frame_is_over(self):
        self.assertEqual(answers(joined([begin(), *clearance()]))[-4:], [3, 1, 7, 1])

    def test_ten_of_now_and_eight_of_match(self):
        self.assertEqual(answers([1, 1, 0, 7, 9]), [1, 0, 10, 0, 0, 0, 15, 1, 0, 147, 0, 0, 0,
                                                    8, 0, 1, 0, 0, 0, 0, 0, 0])

    def test_six_for_each_frame(self):
        self.assertEqual(answers([8, 1, 3, 0, 6, 8, 2, 0, 1, 0, 0, 0, 0, 0, 6, 8]),
                         [1, 0, 1, 0, 1, 1, 7, 1, 1, 1, 0, 0, 0, 0, 7, 0, 0, 0, 0, 1, 0, 0,
                          1, 1, 13, 2, 1, 1, 0, 0, 0, 0, 1, 1, 0, 0, 0, 0])

    def test_a_refusal_is_its_number_alone(self):
        self.assertEqual(answers([6, 7, 8, 9]), [1, -2, 1, -2, 1, 0, 8, 1, 0, 0, 0, 0, 0, 0, 0])

    def test_rows_that_are_empty_or_long(self):
        self.assertEqual(answers([2, 0, 1, 0, 0, 0, 0, 0, 3]), [1, -2, 1, -2])
        self.assertEqual(answers([2, 0, 1, 0, 0, 0, 30] + [9] * 30 + [30] + [1] * 30 + [3]), [1, -1, 1, -2])

    def test_what_is_handed_in_is_not_changed(self):
        calls = joined(EVERYTHING)
        kept = list(calls)
        answers(calls)
        self.assertEqual(calls, kept)
        self.assertEqual(answers(Watched(calls)), answers(calls))

    def test_nothing_is_kept_from_one_time_to_the_next(self):
        calls = joined(EVERYTHING)
        once = answers(calls)
        self.assertEqual(answers(MISSED_RED), [1, -2])
        self.assertEqual(answers(calls), once)
        once.append(5)
        self.assertEqual(answers(calls), once[:-1])

    def test_plain_whole_numbers_are_given_back(self):
        given = answers(joined(EVERYTHING))
        self.assertIs(type(given), list)
        self.assertEqual({type(number) for number in given}, {int})

    def test_nothing_is_printed(self):
        with contextlib.redirect_stdout(io.StringIO()) as out, contextlib.redirect_stderr(io.StringIO()) as err:
            answers(joined(EVERYTHING))
        self.assertEqual(out.getvalue() + err.getvalue(), "")

    def test_as_many_calls_and_numbers_as_there_may_be(self):
        long_stroke = stroke(hit=1, potted=[1] * 30, off=[1] * 30)
        self.assertEqual(answers(begin() + long_stroke * 399), [1, 0] + [1, -4] * 399)
        self.assertEqual(len(answers(AGAIN * 400)), 800)
        self.assertEqual(len(answers(begin(35) + GIVE * 35 + FRAMES * 364)), 2 * 36 + 364 * (1 + 1 + 6 * 35))

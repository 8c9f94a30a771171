"""What holds over whole games, whatever is played."""

import random
import unittest

from tests.helpers import AGAIN, BACK, FRAMES, GIVE, MATCH, NOW, all_answers, begin, last_answer, stroke, toss


def some_stroke(chance, now):
    """A stroke such as might be played as things stand: mostly a pot, else nothing is potted, else a foul."""
    reds, on, may_name_free = now[3], now[4], now[7]
    named = chance.randint(max(on, 2), 7) if on == 0 or may_name_free else 0
    target = named if named > 0 else on
    kind = chance.random()
    if kind < 0.85:
        more_reds = [1] * chance.randint(0, 1) if on == 1 and reds > 1 else []
        return stroke(hit=target, named=named, potted=[target] + more_reds)
    if kind < 0.93:
        return stroke(hit=target, named=named)
    return stroke(hit=chance.choice([0, 7]), named=named, conduct=chance.choice([0, 7, 8]),
                  hidden=chance.randint(0, 1), miss=chance.randint(0, 2))


def some_call(chance, now, last):
    if now[0] == 2:
        return toss(chance.randint(0, 1))
    if last[0] == 2 and chance.random() < 0.3:
        return chance.choice([AGAIN, BACK])
    return GIVE if chance.random() < 0.005 else some_stroke(chance, now)


def play(seed):
    """The calls of a game that is not over yet, and each stroke's answer, with now ahead of it and behind it."""
    chance = random.Random(seed)
    calls = [begin(35, seed % 2)]
    strokes = []
    last, now = all_answers(*calls, NOW)
    for count in range(130):
        calls.append(some_call(chance, now, last))
        ahead = now
        last, now = all_answers(*calls, NOW)[-2:]
        if calls[-1][0] == 2:
            strokes.append((last, ahead, now))
    return calls, strokes


class WholeGames(unittest.TestCase):
    @classmethod
    def setUpClass(cls):
        games = [play(seed) for seed in range(12)]
        cls.games = [calls for calls, strokes in games]
        cls.strokes = [one for calls, strokes in games for one in strokes]

    def outcomes(self, calls):
        frames = last_answer(*calls, FRAMES)
        rows = [frames[at:at + 6] for at in range(1, len(frames), 6)]
        self.assertEqual(len(rows), frames[0])
        return rows

    def test_strokes_of_all_kinds_are_played(self):
        self.assertEqual({answer[0] for answer, ahead, behind in self.strokes}, {0, 1, 2})
        self.assertEqual({answer[2] for answer, ahead, behind in self.strokes}, {0, 1})
        self.assertEqual({ahead[7] for answer, ahead, behind in self.strokes}, {0, 1})

    def test_now_goes_by_what_a_stroke_answers(self):
        for answer, ahead, behind in self.strokes:
            if answer[2] == 0:
                points = ahead[1:3]
                points[1 - ahead[0] if answer[0] == 2 else ahead[0]] += answer[1]
                self.assertEqual(behind[1:3], points)
                self.assertEqual([behind[0], behind[4], behind[7]], answer[3:6])
                goes_on = answer[0] == 1 and behind[0] != 2
                self.assertEqual(behind[5], ahead[5] + answer[1] if goes_on else 0)

    def test_nobody_makes_more_than_is_left(self):
        for answer, ahead, behind in self.strokes:
            if answer[0] == 1:
                self.assertLessEqual(answer[1], ahead[6])
                if answer[2] == 0 and behind[0] != 2:
                    # A free ball, and the colour behind it, come on top of what is left.
                    self.assertLessEqual(answer[1] + behind[6], ahead[6] + 8 * ahead[7])

    def test_no_break_goes_above_155(self):
        for answer, ahead, behind in self.strokes:
            self.assertLessEqual(behind[5], 155)
        for calls in self.games:
            for row in self.outcomes(calls):
                self.assertLessEqual(max(row[4:]), 155)

    def test_who_wins_a_frame_that_is_played_out_has_more_points(self):
        rows = [row for calls in self.games for row in self.outcomes(calls) if row[1] == 0]
        self.assertGreater(len(rows), 10)
        for row in rows:
            self.assertGreater(row[2 + row[0]], row[3 - row[0]])

    def test_the_match_is_told_as_its_frames_are(self):
        for calls in self.games:
            rows = self.outcomes(calls)
            won = [len([row for row in rows if row[0] == player]) for player in (0, 1)]
            highest = [max([row[4 + player] for row in rows], default=0) for player in (0, 1)]
            self.assertEqual(last_answer(*calls, MATCH)[:6], [0, 35] + won + highest)

"""A match, and the calls on it."""

from cuereferee.balls import other
from cuereferee.frames import NOBODY, TO_BE_TOSSED, Frame
from cuereferee.reader import Reader
from cuereferee.strokes import Stroke, can_have_been, has_known_numbers

MOST_FRAMES = 35

# Refusals.
UNKNOWN_NUMBER = -1
NO_FRAME = -2
TOSS_FIRST = -3
CANNOT_HAVE_BEEN = -4
NOT_NOW = -5


# The frame is None before begin, and when the match is won.
class Match:
    def __init__(self):
        self.best = 0
        self.won = [0, 0]
        self.starter = 0
        self.frame = None
        self.frames_over = []

    def begin(self, best, first):
        if best % 2 == 0 or best < 1 or best > MOST_FRAMES or not is_player(first):
            return [UNKNOWN_NUMBER]
        self.best = best
        self.won = [0, 0]
        self.starter = first
        self.frame = Frame(first)
        self.frames_over = []
        return [0]

    def stroke(self, told):
        refusal = self.refusal_of_stroke(told)
        if refusal < 0:
            return [refusal]
        frame = self.frame
        answer = frame.play(told)
        if frame.winner != NOBODY:
            self.end_frame()
            return [answer[0], answer[1], 1]
        free = 1 if frame.may_name_free else 0
        return [answer[0], answer[1], 0, frame.turn, frame.table.on, free, answer[2]]

    # The order tells which refusal is answered where several hold.
    def refusal_of_stroke(self, told):
        if not has_known_numbers(told):
            return UNKNOWN_NUMBER
        if self.frame is None:
            return NO_FRAME
        if self.frame.turn == TO_BE_TOSSED:
            return TOSS_FIRST
        if not can_have_been(told, self.frame.table):
            return CANNOT_HAVE_BEEN
        return 0

    def end_frame(self):
        winner = self.frame.winner
        self.frames_over.append(self.frame)
        self.won[winner] += 1
        if 2 * self.won[winner] > self.best:
            self.frame = None
        else:
            self.starter = other(self.starter)
            self.frame = Frame(self.starter)

    def again(self):
        if self.frame is None:
            return [NO_FRAME]
        if not self.frame.may_again:
            return [NOT_NOW]
        self.frame.again()
        return [self.frame.turn]

    def back(self):
        if self.frame is None:
            return [NO_FRAME]
        if not self.frame.may_back:
            return [NOT_NOW]
        self.frame.back()
        return [self.frame.turn]

    def toss(self, who):
        if not is_player(who):
            return [UNKNOWN_NUMBER]
        if self.frame is None:
            return [NO_FRAME]
        if self.frame.turn != TO_BE_TOSSED:
            return [NOT_NOW]
        self.frame.toss(who)
        return [0]

    def give(self):
        if self.frame is None:
            return [NO_FRAME]
        if self.frame.turn == TO_BE_TOSSED:
            return [TOSS_FIRST]
        frame = self.frame
        frame.give()
        self.end_frame()
        return [frame.winner]

    def now(self):
        if self.frame is None:
            return [NO_FRAME]
        return self.frame.as_it_stands()

    def tell_frames(self):
        answer = [len(self.frames_over)]
        for frame in self.frames_over:
            answer.extend(frame.outcome())
        return answer

    def tell_match(self):
        state = 1 if self.frame is None else 0
        highest = [self.highest_break(0), self.highest_break(1)]
        big = [self.count_big_breaks(0), self.count_big_breaks(1)]
        return [state, self.best] + self.won + highest + big

    def highest_break(self, player):
        return max([frame.highest_breaks[player] for frame in self.frames_over], default=0)

    def count_big_breaks(self, player):
        return sum([frame.big_breaks[player] for frame in self.frames_over])


def is_player(number):
    return number == 0 or number == 1


def call_begin(the_match, reader):
    numbers = reader.take_numbers(2)
    return the_match.begin(numbers[0], numbers[1])


def call_stroke(the_match, reader):
    numbers = reader.take_numbers(5)
    potted = reader.take_row()
    off = reader.take_row()
    return the_match.stroke(Stroke(numbers, potted, off))


def call_again(the_match, reader):
    return the_match.again()


def call_back(the_match, reader):
    return the_match.back()


def call_toss(the_match, reader):
    return the_match.toss(reader.take_number())


def call_give(the_match, reader):
    return the_match.give()


def call_now(the_match, reader):
    return the_match.now()


def call_frames(the_match, reader):
    return the_match.tell_frames()


def call_match(the_match, reader):
    return the_match.tell_match()


CALLS = {1: call_begin, 2: call_stroke, 3: call_again, 4: call_back, 5: call_toss, 6: call_give, 7: call_now,
         8: call_frames, 9: call_match}


def answers(calls):
    reader = Reader(calls)
    the_match = Match()
    given = []
    while not reader.is_at_end():
        number = reader.take_number()
        answer = CALLS[number](the_match, reader)
        given.append(len(answer))
        given.extend(answer)
    return given

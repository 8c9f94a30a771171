"""One frame: points, turns, what may be done behind a foul, and its end."""

from cuereferee.balls import BLACK, other
from cuereferee.judging import Judgement
from cuereferee.strokes import MISS_IN_SIGHT
from cuereferee.table import black_alone, full_table

NOBODY = 2
TO_BE_TOSSED = 2
MISSES_THAT_LOSE = 3

MADE_NOTHING = 0
MADE_SOMETHING = 1
FOUL = 2


class Frame:
    def __init__(self, first):
        self.points = [0, 0]
        self.turn = first
        self.table = full_table()
        self.winner = NOBODY
        # Misses of kind 2 called in the strokes just ahead of this turn, the balls put back behind each.
        self.misses = 0
        # What back brings again: the table ahead of the last foul, and the misses with that foul's own.
        self.table_if_back = self.table
        self.misses_if_back = 0
        self.close_choices()

    # A free ball, again and back are open from a foul to what is done next.
    def close_choices(self):
        self.may_name_free = False
        self.may_again = False
        self.may_back = False

    # Answers what the stroke was, its points, and 1 if a miss was called: the match tells the rest.
    def play(self, told):
        judgement = Judgement(told, self.table, self.may_name_free)
        self.close_choices()
        if judgement.is_foul():
            return self.play_foul(judgement)
        return self.play_fair(judgement)

    def play_fair(self, judgement):
        made = judgement.made()
        self.points[self.turn] += made
        self.table = judgement.table_behind_fair()
        self.misses = 0
        if made == 0:
            self.turn = other(self.turn)
        if self.table.lowest > BLACK:
            self.settle()
        return [MADE_SOMETHING if made > 0 else MADE_NOTHING, made, 0]

    def play_foul(self, judgement):
        cost = judgement.cost()
        may_be_called = self.can_call_miss(judgement)
        self.table_if_back = self.table
        self.table = judgement.table_behind_foul()
        self.turn = other(self.turn)
        self.points[self.turn] += cost
        is_called = may_be_called and self.is_within_reach()
        self.count_miss(is_called and judgement.told.miss == MISS_IN_SIGHT)
        self.open_choices(judgement.told, is_called)
        if self.misses_if_back == MISSES_THAT_LOSE:
            self.winner = self.turn
        elif not self.table.has_more_than_black():
            self.settle()
        return [FOUL, cost, 1 if is_called else 0]

    # Asked ahead of the foul's points and of the reds that are gone by it.
    def can_call_miss(self, judgement):
        if judgement.told.miss == 0 or judgement.is_rightly_hit():
            return False
        return self.table.has_more_than_black() and self.is_within_reach()

    def is_within_reach(self):
        return abs(self.points[0] - self.points[1]) <= self.table.left()

    def count_miss(self, is_in_sight):
        self.misses_if_back = (self.misses + 1) if is_in_sight else 0
        self.misses = 0

    def open_choices(self, told, miss_is_called):
        self.may_name_free = told.hidden == 1 and self.table.has_more_than_black()
        self.may_again = True
        self.may_back = miss_is_called

    def settle(self):
        if self.points[0] == self.points[1]:
            self.table = black_alone()
            self.turn = TO_BE_TOSSED
            self.close_choices()
        else:
            self.winner = 0 if self.points[0] > self.points[1] else 1

    def again(self):
        self.turn = other(self.turn)
        self.close_choices()

    def back(self):
        self.again()
        self.table = self.table_if_back
        self.misses = self.misses_if_back

    def toss(self, who):
        self.turn = who

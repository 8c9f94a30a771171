"""One frame: points, turns, what may be done behind a foul, and its end."""

from cuereferee.balls import BLACK, other
from cuereferee.judging import LEAST_COST, Judgement
from cuereferee.strokes import MISS_IN_SIGHT
from cuereferee.table import black_alone, full_table

NOBODY = 2
TO_BE_TOSSED = 2
MISSES_THAT_LOSE = 3

MADE_NOTHING = 0
MADE_SOMETHING = 1
FOUL = 2

# How a frame was won.
PLAYED_OUT = 0
GIVEN_UP = 1
LOST_BY_MISSES = 2

BIG_BREAK = 100


class Frame:
    def __init__(self, first):
        self.points = [0, 0]
        self.turn = first
        self.table = full_table()
        self.winner = NOBODY
        self.how = PLAYED_OUT
        self.break_so_far = 0
        # Of breaks that are over, for each player.
        self.highest_breaks = [0, 0]
        self.big_breaks = [0, 0]
        # Misses of kind 2 called in the strokes just ahead of this turn, the balls put back behind each.
        self.misses = 0
        # What back brings again: the table ahead of the last foul, and the misses with that foul's own.
        self.table_if_back = self.table
        self.misses_if_back = 0
        self.close_choices()

    # A free ball, again and back are open from a foul to what is done next.
    def close_choices(self):
        self.may_name_free = False
        self.may_again = False
        self.may_back = False

    # Answers what the stroke was, its points, and 1 if a miss was called: the match tells the rest.
    def play(self, told):
        judgement = Judgement(told, self.table, self.may_name_free)
        self.close_choices()
        if judgement.is_foul():
            return self.play_foul(judgement)
        return self.play_fair(judgement)

    def play_fair(self, judgement):
        made = judgement.made()
        self.points[self.turn] += made
        self.break_so_far += made
        self.table = judgement.table_behind_fair()
        self.misses = 0
        if made == 0:
            self.pass_turn()
        if self.table.lowest > BLACK:
            # At a tie, too: a break that ran on behind the toss could go above 155.
            self.end_break()
            self.settle()
        return [MADE_SOMETHING if made > 0 else MADE_NOTHING, made, 0]

    def play_foul(self, judgement):
        cost = judgement.cost()
        may_be_called = self.can_call_miss(judgement)
        self.table_if_back = self.table
        self.table = judgement.table_behind_foul()
        self.pass_turn()
        self.points[self.turn] += cost
        is_called = may_be_called and self.is_within_reach()
        self.count_miss(is_called and judgement.told.miss == MISS_IN_SIGHT)
        self.open_choices(judgement.told, is_called)
        if self.misses_if_back == MISSES_THAT_LOSE:
            self.win(self.turn, LOST_BY_MISSES)
        elif not self.table.has_more_than_black():
            self.settle()
        return [FOUL, cost, 1 if is_called else 0]

    def pass_turn(self):
        self.end_break()
        self.turn = other(self.turn)

    # Done while it is still the turn of whoever made the break.
    def end_break(self):
        player = self.turn
        self.highest_breaks[player] = max(self.highest_breaks[player], self.break_so_far)
        if self.break_so_far >= BIG_BREAK:
            self.big_breaks[player] += 1
        self.break_so_far = 0

    # Asked ahead of the foul's points and of the reds that are gone by it.
    def can_call_miss(self, judgement):
        if judgement.told.miss == 0 or judgement.is_rightly_hit():
            return False
        return self.table.has_more_than_black() and self.is_within_reach()

    def is_within_reach(self):
        return abs(self.points[0] - self.points[1]) <= self.table.left()

    def count_miss(self, is_in_sight):
        self.misses_if_back = (self.misses + 1) if is_in_sight else 0
        self.misses = 0

    def open_choices(self, told, miss_is_called):
        self.may_name_free = told.hidden == 1 and self.table.has_more_than_black()
        self.may_again = True
        self.may_back = miss_is_called

    def settle(self):
        if self.points[0] == self.points[1]:
            self.table = black_alone()
            self.turn = TO_BE_TOSSED
            self.close_choices()
        else:
            self.win(0 if self.points[0] > self.points[1] else 1, PLAYED_OUT)

    def win(self, player, how):
        self.winner = player
        self.how = how

    def again(self):
        self.pass_turn()
        self.close_choices()

    def back(self):
        self.again()
        self.table = self.table_if_back
        self.misses = self.misses_if_back

    def toss(self, who):
        self.turn = who

    def give(self):
        self.pass_turn()
        self.win(self.turn, GIVEN_UP)

    def fouls_needed(self, player):
        short = self.points[other(player)] - self.points[player] - self.table.left()
        # Rounded up: part of a foul's points takes a whole foul.
        return max(0, (short + LEAST_COST - 1) // LEAST_COST)

    def as_it_stands(self):
        free = 1 if self.may_name_free else 0
        on_table = [self.table.reds, self.table.on, self.break_so_far, self.table.left(), free]
        return [self.turn] + self.points + on_table + [self.fouls_needed(0), self.fouls_needed(1)]

    # Asked when it is over.
    def outcome(self):
        return [self.winner, self.how] + self.points + self.highest_breaks

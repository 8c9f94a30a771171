"""What a stroke was, seen against what was on."""

from cuereferee.balls import ANY_COLOUR, BLACK, NOTHING, RED
from cuereferee.strokes import ABOUT_NO_BALL
from cuereferee.table import Table, table_in_round

LEAST_COST = 4


class Judgement:
    def __init__(self, told, table, may_name_free):
        self.told = told
        self.table = table
        self.free = free_ball(told, table, may_name_free)
        self.all_on = balls_on(told, table, self.free)

    def is_rightly_hit(self):
        if self.free != NOTHING:
            return self.told.hit == self.free
        return self.told.hit in self.all_on

    def wrongly_potted(self):
        return [ball for ball in self.told.potted if ball not in self.all_on]

    def is_foul(self):
        if not self.is_rightly_hit() or len(self.wrongly_potted()) > 0:
            return True
        return len(self.told.off) > 0 or self.told.conduct != 0

    def worth_of_on(self):
        # A free ball stands for the ball on, whatever its own number.
        if self.table.on != ANY_COLOUR:
            return self.table.on
        return self.told.named if self.told.names_colour() else BLACK

    def cost(self):
        costs = [LEAST_COST, self.worth_of_on()]
        costs.extend(self.wrongly_potted())
        costs.extend(self.told.off)
        if not self.is_rightly_hit():
            costs.append(self.told.hit)
        if self.told.conduct != ABOUT_NO_BALL:
            costs.append(self.told.conduct)
        return max(costs)

    def made(self):
        # Asked only where there was no foul, so all that is potted was on.
        if len(self.told.potted) == 0:
            return 0
        if self.table.on == RED:
            return len(self.told.potted)
        return self.worth_of_on()

    def table_behind_foul(self):
        return table_in_round(self.table.reds - self.told.reds_gone(), self.table.lowest)

    def table_behind_fair(self):
        reds = self.table.reds - self.told.reds_gone()
        if self.table.on == RED and self.made() > 0:
            return Table(reds, self.table.lowest, ANY_COLOUR)
        if self.table.on == self.table.lowest and self.table.lowest in self.told.potted:
            return table_in_round(reds, self.table.lowest + 1)
        return table_in_round(reds, self.table.lowest)


def free_ball(told, table, may_name_free):
    # No colour is on while a ball may be named free: a foul leaves the table in a round.
    if may_name_free and told.names_colour() and told.named != table.on:
        return told.named
    return NOTHING


def balls_on(told, table, free):
    on = []
    if table.on != ANY_COLOUR:
        on.append(table.on)
    elif told.names_colour():
        on.append(told.named)
    if free != NOTHING:
        on.append(free)
    return on

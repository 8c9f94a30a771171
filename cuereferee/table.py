"""The table: what lies on it, and what's on."""

from cuereferee.balls import ALL_REDS, ANY_COLOUR, BLACK, RED, WHITE, YELLOW

ALL_COLOURS_WORTH = 27
RED_AND_BLACK_WORTH = 8


# Never changed once it is made: a stroke makes another one, so that the old one can be put back.
# Colours leave the table in their order alone, so the lowest tells all that are there.
class Table:
    def __init__(self, reds, lowest, on):
        self.reds = reds
        self.lowest = lowest
        self.on = on

    def how_many(self, ball):
        if ball == WHITE:
            return 1
        if ball == RED:
            return self.reds
        return 1 if ball >= self.lowest else 0

    def has_more_than_black(self):
        # While a red is there, all colours are there too.
        return self.lowest < BLACK

    def left(self):
        with_reds = RED_AND_BLACK_WORTH * self.reds + ALL_COLOURS_WORTH
        if self.on == RED:
            return with_reds
        if self.on == ANY_COLOUR:
            return with_reds + BLACK
        return sum(range(self.lowest, BLACK + 1))


def table_in_round(reds, lowest):
    return Table(reds, lowest, RED if reds > 0 else lowest)


def full_table():
    return table_in_round(ALL_REDS, YELLOW)


def black_alone():
    return table_in_round(0, BLACK)

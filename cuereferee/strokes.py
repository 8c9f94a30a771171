"""A stroke as it is told, and whether it can have been."""

from cuereferee.balls import BLACK, NOTHING, RED, WHITE, YELLOW

ABOUT_NO_BALL = 8
MISS_IN_SIGHT = 2


class Stroke:
    def __init__(self, numbers, potted, off):
        self.named = numbers[0]
        self.hit = numbers[1]
        self.conduct = numbers[2]
        self.hidden = numbers[3]
        self.miss = numbers[4]
        self.potted = potted
        self.off = off

    def names_colour(self):
        # 1 says nothing, as 0 does: a red is never named.
        return self.named >= YELLOW

    def reds_gone(self):
        return self.potted.count(RED) + self.off.count(RED)


def is_within(number, highest):
    return 0 <= number <= highest


def has_known_numbers(told):
    if not is_within(told.named, BLACK) or not is_within(told.hit, BLACK):
        return False
    if not is_within(told.conduct, ABOUT_NO_BALL) or not is_within(told.hidden, 1):
        return False
    if not is_within(told.miss, MISS_IN_SIGHT):
        return False
    return all([is_within(ball, BLACK) for ball in told.potted + told.off])


def can_have_been(told, table):
    gone = told.potted + told.off
    if told.names_colour() and table.how_many(told.named) == 0:
        return False
    if told.hit != NOTHING and table.how_many(told.hit) == 0:
        return False
    if told.hit == NOTHING and any([ball != WHITE for ball in gone]):
        return False
    return all([gone.count(ball) <= table.how_many(ball) for ball in gone])

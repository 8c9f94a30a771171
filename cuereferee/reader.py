"""Reads a list of whole numbers one behind another, and leaves it as it is."""


class Reader:
    def __init__(self, source):
        self.source = source
        self.at = 0

    def is_at_end(self):
        return self.at >= len(self.source)

    def take_numbers(self, how_many):
        taken = self.source[self.at:self.at + how_many]
        self.at += how_many
        return taken

    def take_number(self):
        return self.take_numbers(1)[0]

    def take_row(self):
        # A row has its length before it.
        return self.take_numbers(self.take_number())

"""A notebook: its cells by their numbers, and its seed."""

MOST_CELLS = 12


class Notebook:
    def __init__(self):
        self.cells = {}
        self.seed = 0

    def in_order(self):
        return [self.cells[number] for number in sorted(self.cells)]

    def has_cell(self, number):
        return number in self.cells

    def has_room_for(self, number):
        return number in self.cells or len(self.cells) < MOST_CELLS

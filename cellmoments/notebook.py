"""A notebook: its cells by their numbers, and its seed."""

MOST_CELLS = 12


class Notebook:
    def __init__(self):
        self.cells = {}
        self.seed = 0

    def in_order(self):
        return [self.cells[number] for number in sorted(self.cells)]

    def has_cell(self, number):
        return number in self.cells

    def has_room_for(self, number):
        return number in self.cells or len(self.cells) < MOST_CELLS

    def with_edits(self, edits):
        """Another notebook: what these edits make of this one, which stays as it is."""
        edited = Notebook()
        edited.cells = dict(self.cells)
        edited.seed = self.seed
        for edit in edits:
            edit.do_on(edited)
        return edited

"""The edits. Each can be done on every notebook, also on one that it was not made for.

An edit touches a cell, given by its number, by what stands on the pages before and after the edit.
"""

from cellmoments.related import is_seeded, makes_related


class PutEdit:
    def __init__(self, cell):
        self.cell = cell

    def do_on(self, notebook):
        if notebook.has_room_for(self.cell.number):
            notebook.cells[self.cell.number] = self.cell

    def laid_out(self):
        cell = self.cell
        return [0, cell.number, cell.name, cell.kind, cell.constant, len(cell.reads)] + list(cell.reads)

    def touches(self, number, before, after):
        return number == self.cell.number or makes_related(self.cell.number, number, before, after)


class DropEdit:
    def __init__(self, number):
        self.number = number

    def do_on(self, notebook):
        if notebook.has_cell(self.number):
            notebook.cells.pop(self.number)

    def laid_out(self):
        return [1, self.number]

    def touches(self, number, before, after):
        return number == self.number or makes_related(self.number, number, before, after)


class SeedEdit:
    def __init__(self, new_seed):
        self.new_seed = new_seed

    def do_on(self, notebook):
        notebook.seed = self.new_seed

    def laid_out(self):
        return [2, self.new_seed]

    def touches(self, number, before, after):
        return is_seeded(number, before) or is_seeded(number, after)

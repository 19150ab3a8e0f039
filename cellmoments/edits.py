"""The edits. Each can be done on every notebook, also on one that it was not made for."""


class PutEdit:
    def __init__(self, cell):
        self.cell = cell

    def do_on(self, notebook):
        if notebook.has_room_for(self.cell.number):
            notebook.cells[self.cell.number] = self.cell


class DropEdit:
    def __init__(self, number):
        self.number = number

    def do_on(self, notebook):
        if notebook.has_cell(self.number):
            notebook.cells.pop(self.number)


class SeedEdit:
    def __init__(self, new_seed):
        self.new_seed = new_seed

    def do_on(self, notebook):
        notebook.seed = self.new_seed

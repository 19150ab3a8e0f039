"""A page: a notebook gone through, and what each of its cells came to.

Its results lead from a cell's number to its result; its workings are those of the clear cells that aren't held, in
running order. A notebook that has a page is not edited any more.
"""

from cellmoments.running import NO_SUCH_CELL, SHOWS, TROUBLED, result_from, running_order, working_of
from cellmoments.trouble import CLEAR, troubles_in
from cellmoments.wiring import Wiring


class Page:
    def __init__(self, notebook):
        cells = notebook.in_order()
        self.notebook = notebook
        self.wiring = Wiring(cells)
        self.results = {}
        self.workings = []
        troubles = troubles_in(cells, self.wiring)
        self.set_aside(troubles)
        self.go_through([number for number in troubles if troubles[number] == CLEAR])

    def set_aside(self, troubles):
        for number in troubles:
            if troubles[number] != CLEAR:
                self.results[number] = (TROUBLED, troubles[number])

    def go_through(self, clear):
        for number in running_order(clear, self.wiring.above):
            cell = self.notebook.cells[number]
            working = working_of(cell, self.notebook.seed, self.wiring.sources[number], self.results)
            self.results[number] = result_from(working)
            if working is not None:
                self.workings.append(working)

    def result_of(self, number):
        return self.results.get(number, NO_SUCH_CELL)

    def passes(self, number):
        result = self.result_of(number)
        return result[0] == SHOWS and result[1] != 0

"""The history: the edits one behind another, a page for each position, and the moments remembered in it."""

from cellmoments.notebook import Notebook
from cellmoments.page import Page

MOST_EDITS = 40


class History:
    def __init__(self):
        self.edits = []
        self.pages = [Page(Notebook())]
        self.moments = {}

    def last_position(self):
        return len(self.edits)

    def has_position(self, p):
        return 0 <= p <= self.last_position()

    def has_span(self, p, q):
        return self.has_position(p) and self.has_position(q) and p <= q

    def is_full(self):
        return len(self.edits) >= MOST_EDITS

    def record(self, edit):
        self.pages.append(Page(self.notebook_now().with_edits([edit])))
        self.edits.append(edit)

    def edit_of_number(self, k):
        return self.edits[k - 1]

    def notebook_now(self):
        return self.pages[self.last_position()].notebook

    def cut_behind(self, p):
        self.edits = self.edits[:p]
        self.pages = self.pages[:p + 1]
        kept = {}
        for name, position in self.moments.items():
            if position <= p:
                kept[name] = position
        self.moments = kept

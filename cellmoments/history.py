"""The history: the edits one behind another, and the moments remembered in it."""

from cellmoments.notebook import Notebook

MOST_EDITS = 40


class History:
    def __init__(self):
        self.edits = []
        self.moments = {}

    def last_position(self):
        return len(self.edits)

    def has_position(self, p):
        return 0 <= p <= self.last_position()

    def is_full(self):
        return len(self.edits) >= MOST_EDITS

    def record(self, edit):
        self.edits.append(edit)

    def notebook_at(self, p):
        notebook = Notebook()
        for edit in self.edits[:p]:
            edit.do_on(notebook)
        return notebook

    def notebook_now(self):
        return self.notebook_at(self.last_position())

    def cut_behind(self, p):
        self.edits = self.edits[:p]
        kept = {}
        for name, position in self.moments.items():
            if position <= p:
                kept[name] = position
        self.moments = kept

"""A cell, and what may stand in one."""

from cellmoments.refusals import ALLOWED, BAD_CONSTANT, BAD_KIND, BAD_NAME, BAD_NUMBER, READ_TWICE, TOO_MANY_READS

FIRST_NUMBER = 1
LAST_NUMBER = 99
LAST_NAME = 31
LAST_KIND = 5
LAST_CONSTANT = 96
MOST_READS = 6


class Cell:
    def __init__(self, number, name, kind, constant, reads):
        self.number = number
        self.name = name
        self.kind = kind
        self.constant = constant
        self.reads = tuple(reads)

    def parts(self):
        return (self.number, self.name, self.kind, self.constant, self.reads)


def is_name(number):
    return 0 <= number <= LAST_NAME


def cell_refusal(cell):
    """The first refusal that the cell earns by itself, whatever notebook it is meant for."""
    if not FIRST_NUMBER <= cell.number <= LAST_NUMBER:
        return BAD_NUMBER
    if not is_name(cell.name) or not all([is_name(name) for name in cell.reads]):
        return BAD_NAME
    if len(set(cell.reads)) != len(cell.reads):
        return READ_TWICE
    if len(cell.reads) > MOST_READS:
        return TOO_MANY_READS
    if not 0 <= cell.kind <= LAST_KIND:
        return BAD_KIND
    if not 0 <= cell.constant <= LAST_CONSTANT:
        return BAD_CONSTANT
    return ALLOWED

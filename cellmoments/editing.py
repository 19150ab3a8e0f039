"""The calls that put an edit behind the others: put, drop, seed."""

from cellmoments.cell import cell_refusal
from cellmoments.edits import DropEdit, PutEdit, SeedEdit
from cellmoments.refusals import ALLOWED, BAD_SEED, HISTORY_FULL, NO_CELL, NO_CHANGE, NO_ROOM

LAST_SEED = 1000


def put_refusal(history, notebook, cell):
    refusal = cell_refusal(cell)
    if refusal != ALLOWED:
        return refusal
    if not notebook.has_room_for(cell.number):
        return NO_ROOM
    if notebook.has_cell(cell.number) and notebook.cells[cell.number].parts() == cell.parts():
        return NO_CHANGE
    if history.is_full():
        return HISTORY_FULL
    return ALLOWED


def put_cell(history, cell):
    notebook = history.notebook_now()
    refusal = put_refusal(history, notebook, cell)
    if refusal != ALLOWED:
        return refusal
    history.record(PutEdit(cell))
    return 0 if notebook.has_cell(cell.number) else 1


def drop_cell(history, number):
    if not history.notebook_now().has_cell(number):
        return NO_CELL
    if history.is_full():
        return HISTORY_FULL
    history.record(DropEdit(number))
    return 0


def change_seed(history, new_seed):
    if not 0 <= new_seed <= LAST_SEED:
        return BAD_SEED
    if history.notebook_now().seed == new_seed:
        return NO_CHANGE
    if history.is_full():
        return HISTORY_FULL
    history.record(SeedEdit(new_seed))
    return 0

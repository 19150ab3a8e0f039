"""What is wrong with a cell before anything is worked out."""

CLEAR = 0
DOUBLE = 2
CIRCLE = 3
MISSING = 4
UNSURE = 5
BEHIND = 6


def own_trouble(cell, wiring):
    """The trouble 2 to 5 of a cell, or CLEAR: all but what it has from the cells above it."""
    if wiring.how_many_make(cell.name) > 1:
        return DOUBLE
    if cell.number in wiring.above[cell.number]:
        return CIRCLE
    making = [wiring.how_many_make(name) for name in cell.reads]
    if 0 in making:
        return MISSING
    if any([count > 1 for count in making]):
        return UNSURE
    return CLEAR


def troubles_in(cells, wiring):
    """Number to trouble, CLEAR for a clear cell."""
    own = {}
    for cell in cells:
        own[cell.number] = own_trouble(cell, wiring)
    troubles = {}
    for number in own:
        behind = any([own[upper] != CLEAR for upper in wiring.above[number]])
        troubles[number] = BEHIND if own[number] == CLEAR and behind else own[number]
    return troubles

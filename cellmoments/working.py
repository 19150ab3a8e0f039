"""A working, and what it comes to. It is a tuple: a kind, a constant, a start, and a tuple of values."""

MODULUS = 97
SEEDED_KIND = 5


def start_of(cell, seed):
    return 100 * seed + cell.number if cell.kind == SEEDED_KIND else 0


def comes_to(working):
    """The value that the working comes to, or None where it is refused."""
    kind = working[0]
    constant = working[1]
    values = working[3]
    total = sum(values)
    if kind == 0:
        return (constant + total) % MODULUS
    if kind == 1:
        return constant * product_of(values) % MODULUS
    if kind == 2:
        return max([constant] + list(values))
    if kind == 3:
        return divided(1000 * constant, total % MODULUS)
    if kind == 4:
        return (constant + total // 16) % MODULUS
    return (41 * working[2] + 13 * constant + total) % MODULUS


def product_of(values):
    product = 1
    for value in values:
        product = product * value
    return product


def divided(upper, lower):
    if lower == 0:
        return None
    return upper // lower % MODULUS

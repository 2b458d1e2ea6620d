"""Terms as rows of numbers."""

from sweptheapdesk.cells import CONSTANT, PLACE, STRUCTURE, argument_cells, argument_count, looked_through


# The cells of a term's variables and symbols, looked through, in the order of its row. One above the most is
# where it ends: shared parts count each time they stand there, so that a term may be far too large to go through.
def term_parts(heap, cell, most):
    parts = []
    waiting = [cell]
    while len(waiting) > 0 and len(parts) <= most:
        found = looked_through(heap, waiting.pop())
        parts.append(found)
        if found[0] == STRUCTURE:
            waiting.extend(argument_cells(heap, found[1])[::-1])
    return parts


def variable_numbers(parts):
    numbers = {}
    for cell in parts:
        if cell[0] == PLACE and cell not in numbers:
            numbers[cell] = len(numbers)
    return numbers


# parts: those of several terms one behind another, so that variables are numbered over all of them.
def rows(heap, parts):
    numbers = variable_numbers(parts)
    told = []
    for cell in parts:
        if cell[0] == PLACE:
            told.extend([0, numbers[cell]])
        elif cell[0] == CONSTANT:
            told.extend([1, cell[1]])
        else:
            told.extend([argument_count(heap, cell[1]) + 1, heap[cell[1]][1]])
    return told

"""The heap's cells, and how they are looked through.

A cell is a pair of numbers, a sort and what goes with it: PLACE and a place, CONSTANT and its symbol,
STRUCTURE and the place of its head, STRUCTURE + k and the symbol of a head that has k arguments.
"""

PLACE = 0
CONSTANT = 1
STRUCTURE = 2


def looked_through(heap, cell):
    while cell[0] == PLACE and heap[cell[1]] != cell:
        cell = heap[cell[1]]
    return cell


def argument_count(heap, head_place):
    return heap[head_place][0] - STRUCTURE


def argument_cells(heap, head_place):
    first = head_place + 1
    return heap[first:first + argument_count(heap, head_place)]


# A structure leads to its head and to each argument, as these are found by how they stand behind one another.
def places_led_to(heap, cell):
    if cell[0] == PLACE:
        return [cell[1]]
    if cell[0] == STRUCTURE:
        return list(range(cell[1], cell[1] + 1 + argument_count(heap, cell[1])))
    return []


# Both cells are handed over looked through. Each structure is entered once: terms may share parts
# so much that going down every path would not end.
def stands_in(heap, variable, cell):
    waiting = [cell]
    entered = {}
    while len(waiting) > 0:
        found = looked_through(heap, waiting.pop())
        if found == variable:
            return True
        if found[0] == STRUCTURE and found[1] not in entered:
            entered[found[1]] = True
            waiting.extend(argument_cells(heap, found[1]))
    return False

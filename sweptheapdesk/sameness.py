"""Making two cells the same."""

from sweptheapdesk.cells import PLACE, STRUCTURE, argument_count, looked_through, stands_in


# Of two free variables the one at the greater place is the one to bind.
def is_to_bind(cell, other):
    return cell[0] == PLACE and (other[0] != PLACE or cell[1] > other[1])


def bind_to(machine, variable, cell):
    if stands_in(machine.heap, variable, cell):
        return False
    machine.bind(variable[1], cell)
    return True


def have_equal_heads(heap, one, other):
    return one[0] == STRUCTURE and other[0] == STRUCTURE and heap[one[1]] == heap[other[1]]


# The last pair comes first, as the pairs are taken from the end of the list that they go to.
def argument_pairs(heap, one, other):
    count = argument_count(heap, one[1])
    return [(heap[one[1] + k], heap[other[1] + k]) for k in range(count, 0, -1)]


# A pair of structures that was entered before is the same by now (no term stands in itself), so it is
# passed over: shared parts would otherwise be gone through once for every path to them.
def try_to_make_same(machine, first, second):
    waiting = [(first, second)]
    entered = {}
    while len(waiting) > 0:
        pair = waiting.pop()
        one = looked_through(machine.heap, pair[0])
        other = looked_through(machine.heap, pair[1])
        if one == other or (one, other) in entered:
            continue
        if is_to_bind(one, other):
            fits = bind_to(machine, one, other)
        elif is_to_bind(other, one):
            fits = bind_to(machine, other, one)
        else:
            fits = have_equal_heads(machine.heap, one, other)
            if fits:
                entered[(one, other)] = True
                waiting.extend(argument_pairs(machine.heap, one, other))
        if not fits:
            return False
    return True


# The trail does not tell all that was bound, so what is to be put back after a failure is copied first.
def make_same(machine, first, second):
    heap_before = list(machine.heap)
    trail_before = list(machine.trail)
    if try_to_make_same(machine, first, second):
        return True
    machine.heap = heap_before
    machine.trail = trail_before
    return False

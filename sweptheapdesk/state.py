"""What the machine has: heap, registers, trail and choices."""

from sweptheapdesk.cells import PLACE, STRUCTURE

REGISTER_COUNT = 16


class Choice:
    def __init__(self, registers, heap_length, trail_length):
        self.registers = registers
        self.heap_length = heap_length
        self.trail_length = trail_length


# A register that has nothing has None.
class Machine:
    def __init__(self):
        self.heap = []
        self.registers = [None] * REGISTER_COUNT
        self.trail = []
        self.choices = []

    def add_variable(self):
        cell = (PLACE, len(self.heap))
        self.heap.append(cell)
        return cell

    def add_structure(self, symbol, cells):
        head_place = len(self.heap)
        self.heap.append((STRUCTURE + len(cells), symbol))
        self.heap.extend(cells)
        return (STRUCTURE, head_place)

    # What is younger than the topmost choice needs no trail: going back cuts it off with the heap.
    def bind(self, place, cell):
        self.heap[place] = cell
        if len(self.choices) > 0 and self.choices[-1].heap_length > place:
            self.trail.append(place)

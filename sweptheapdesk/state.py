"""What the machine has: heap, registers, trail and choices."""

from sweptheapdesk.cells import PLACE, STRUCTURE

REGISTER_COUNT = 16


class Choice:
    def __init__(self, registers, heap_length, trail_length):
        self.registers = registers
        self.heap_length = heap_length
        self.trail_length = trail_length


# A register that has nothing has None.
class Machine:
    def __init__(self):
        self.heap = []
        self.registers = [None] * REGISTER_COUNT
        self.trail = []
        self.choices = []

    def add_variable(self):
        cell = (PLACE, len(self.heap))
        self.heap.append(cell)
        return cell

    def add_structure(self, symbol, cells):
        head_place = len(self.heap)
        self.heap.append((STRUCTURE + len(cells), symbol))
        self.heap.extend(cells)
        return (STRUCTURE, head_place)

    # What is younger than the topmost choice needs no trail: going back cuts it off with the heap.
    def bind(self, place, cell):
        self.heap[place] = cell
        if len(self.choices) > 0 and self.choices[-1].heap_length > place:
            self.trail.append(place)

    # With copies of the registers, as the machine's own go on changing.
    def choice_of_now(self):
        return Choice(list(self.registers), len(self.heap), len(self.trail))

    # The heap is cut last: behind a cut, the trail may have places that the choice's heap never had.
    def heap_behind(self, choice):
        heap = list(self.heap)
        for place in self.trail[choice.trail_length:]:
            heap[place] = (PLACE, place)
        return heap[:choice.heap_length]

    def back_to_topmost(self):
        choice = self.choices[-1]
        self.heap = self.heap_behind(choice)
        self.trail = self.trail[:choice.trail_length]
        self.registers = list(choice.registers)

"""The machine beside a second one that does what the document's words say, step by step, by recursion."""

import random
import unittest

from sweptheapdesk.machine import answers
from sweptheapdesk.state import Choice, Machine
from tests.helper import arg, clear, con, copy, do, line, new, same, state, struct


class Model:
    def __init__(self):
        self.heap = []
        self.values = {}
        self.choices = []
        self.trail = []

    def end(self, cell):
        kind, number = cell
        if kind != 0 or self.heap[number] == cell:
            return cell
        return self.end(self.heap[number])

    def parts(self, cell):
        kind, number = cell
        if kind != 2:
            return []
        return [self.heap[number + 1 + k] for k in range(self.heap[number][0] - 2)]

    def occurs(self, variable, cell):
        cell = self.end(cell)
        return cell == variable or any(self.occurs(variable, part) for part in self.parts(cell))

    def bind(self, place, cell):
        self.heap[place] = cell
        if self.choices and self.choices[-1][1] > place:
            self.trail.append(place)

    def unify(self, one, other):
        one, other = self.end(one), self.end(other)
        if one == other:
            return True
        if one[0] == 0 and other[0] == 0:
            self.bind(max(one[1], other[1]), (0, min(one[1], other[1])))
            return True
        if one[0] == 0 or other[0] == 0:
            variable, cell = (one, other) if one[0] == 0 else (other, one)
            if self.occurs(variable, cell):
                return False
            self.bind(variable[1], cell)
            return True
        if one[0] == 2 and other[0] == 2 and self.heap[one[1]] == self.heap[other[1]]:
            return all(self.unify(a, b) for a, b in zip(self.parts(one), self.parts(other)))
        return False

    def refused(self, named, wrong, looked_at):
        if any(r > 15 for r in named):
            return -2
        if wrong:
            return -1
        return -4 if any(r not in self.values for r in looked_at) else None

    def new(self, r):
        refused = self.refused([r], False, [])
        if refused is None:
            self.values[r] = (0, len(self.heap))
            self.heap.append(self.values[r])
        return refused or 0

    def con(self, r, symbol):
        refused = self.refused([r], symbol > 999, [])
        if refused is None:
            self.values[r] = (1, symbol)
        return refused or 0

    def struct(self, r, symbol, registers):
        wrong = symbol > 999 or len(registers) not in (1, 2, 3, 4)
        refused = self.refused([r, *registers], wrong, registers)
        if refused is None:
            place = len(self.heap)
            self.heap += [(2 + len(registers), symbol)] + [self.values[q] for q in registers]
            self.values[r] = (2, place)
        return refused or 0

    def copy(self, r, q):
        refused = self.refused([r, q], False, [r])
        if refused is None:
            self.values[q] = self.values[r]
        return refused or 0

    def clear(self, r):
        refused = self.refused([r], False, [])
        if refused is None:
            self.values.pop(r, None)
        return refused or 0

    def same(self, r, q):
        refused = self.refused([r, q], False, [r, q])
        if refused is not None:
            return refused
        heap, trail = list(self.heap), list(self.trail)
        if self.unify(self.values[r], self.values[q]):
            return 1
        self.heap, self.trail = heap, trail
        return 0

    def arg(self, r, i, q):
        refused = self.refused([r, q], False, [r])
        if refused is not None:
            return refused
        cell = self.end(self.values[r])
        if i >= len(self.parts(cell)):
            return 0
        self.values[q] = (0, cell[1] + 1 + i)
        return 1

    def state(self):
        registers = [self.values.get(r) for r in range(16)]
        return self.heap, registers, self.trail, self.choices


MAKERS = {"new": new, "con": con, "struct": struct, "copy": copy, "clear": clear, "same": same, "arg": arg}
NAMES = ["new"] * 4 + ["con"] * 2 + ["struct"] * 5 + ["copy"] * 2 + ["clear"] + ["same"] * 7 + ["arg"] * 5


def some_call(source):
    def one_register():
        return source.choice((0, 15, 16)) if source.random() < 0.03 else source.randrange(5)

    def one_symbol():
        return source.choice((0, 999, 1000)) if source.random() < 0.03 else source.randrange(2)

    name = source.choice(NAMES)
    if name in ("new", "clear"):
        return name, (one_register(),)
    if name == "con":
        return name, (one_register(), one_symbol())
    if name in ("copy", "same"):
        return name, (one_register(), one_register())
    if name == "arg":
        return name, (one_register(), source.randrange(5), one_register())
    length = source.choice((0, 5, 30)) if source.random() < 0.03 else source.choice((1, 1, 2, 2, 3, 4))
    return name, (one_register(), one_symbol(), [one_register() for _ in range(length)])


class BesideTheModel(unittest.TestCase):
    def test_lines(self):
        source = random.Random(20)
        seen = {}
        for _ in range(1500):
            calls = [some_call(source) for _ in range(35)]
            model = Model()
            expected = [getattr(model, name)(*given) for name, given in calls]
            told = answers(line(MAKERS[name](*given) for name, given in calls))
            self.assertEqual(told, [number for answer in expected for number in (1, answer)], calls)
            for (name, _), answer in zip(calls, expected):
                seen[name, answer] = seen.get((name, answer), 0) + 1
        for name, answer in (("same", 0), ("same", 1), ("arg", 0), ("arg", 1), ("struct", -1), ("struct", -2),
                             ("struct", -4), ("same", -2), ("arg", -2), ("copy", -4), ("con", -1)):
            self.assertGreater(seen[name, answer], 20, (name, answer))

    def test_all_that_the_machine_has_after_each_call(self):
        source = random.Random(21)
        trails = 0
        for _ in range(1500):
            model, machine = Model(), Machine()
            for _ in range(35):
                if source.random() < 0.05:
                    heap, registers, trail, _ = model.state()
                    model.choices.append((registers, len(heap), len(trail)))
                    machine.choices.append(Choice(list(machine.registers), len(machine.heap), len(machine.trail)))
                name, given = some_call(source)
                answer = getattr(model, name)(*given)
                self.assertEqual(do(machine, MAKERS[name](*given)), [[answer]])
                self.assertEqual(state(machine), model.state())
            trails += len(model.trail)
        self.assertGreater(trails, 200)


if __name__ == "__main__":
    unittest.main()

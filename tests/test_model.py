"""The machine beside a second one that does what the document's words say, step by step, by recursion."""

import collections
import copy
import random
import unittest

from sweptheapdesk.machine import answers
from sweptheapdesk.state import Machine
from tests.helper import MAKERS, as_numbers, do, some_line, split_answers, state


class Refused(Exception):
    pass


class Model:
    def __init__(self):
        self.heap = []
        self.values = {}
        self.choices = []
        self.trail = []
        self.met = collections.Counter()

    def end(self, cell):
        kind, number = cell
        if kind != 0 or self.heap[number] == cell:
            return cell
        return self.end(self.heap[number])

    def parts(self, cell):
        kind, number = cell
        if kind != 2:
            return []
        return [self.heap[number + 1 + k] for k in range(self.heap[number][0] - 2)]

    # What was gone through already is kept in a set, as shared parts would be gone through without end.
    def occurs(self, variable, cell, done):
        cell = self.end(cell)
        if cell in done:
            return False
        done.add(cell)
        return cell == variable or any(self.occurs(variable, part, done) for part in self.parts(cell))

    def bind(self, place, cell):
        self.heap[place] = cell
        if self.choices and self.choices[-1][1] > place:
            self.trail.append(place)

    def unify(self, one, other, done):
        one, other = self.end(one), self.end(other)
        if one == other or (one, other) in done:
            return True
        if one[0] == 0 and other[0] == 0:
            self.bind(max(one[1], other[1]), (0, min(one[1], other[1])))
            return True
        if one[0] == 0 or other[0] == 0:
            variable, cell = (one, other) if one[0] == 0 else (other, one)
            if self.occurs(variable, cell, set()):
                return False
            self.bind(variable[1], cell)
            return True
        if one[0] == 2 and other[0] == 2 and self.heap[one[1]] == self.heap[other[1]]:
            fits = all(self.unify(a, b, done) for a, b in zip(self.parts(one), self.parts(other)))
            done.add((one, other))
            return fits
        return False

    def check(self, named, wrong, looked_at):
        if any(r > 15 for r in named):
            raise Refused(-2)
        if wrong:
            raise Refused(-1)
        if any(r not in self.values for r in looked_at):
            raise Refused(-4)

    def answer(self, name, given):
        try:
            return getattr(self, name)(*given)
        except Refused as refused:
            return list(refused.args)

    def new(self, r):
        self.check([r], False, [])
        self.values[r] = (0, len(self.heap))
        self.heap.append(self.values[r])
        return [0]

    def con(self, r, symbol):
        self.check([r], symbol > 999, [])
        self.values[r] = (1, symbol)
        return [0]

    def struct(self, r, symbol, registers):
        self.check([r, *registers], symbol > 999 or len(registers) not in (1, 2, 3, 4), registers)
        place = len(self.heap)
        self.heap += [(2 + len(registers), symbol)] + [self.values[q] for q in registers]
        self.values[r] = (2, place)
        return [0]

    def copy(self, r, q):
        self.check([r, q], False, [r])
        self.values[q] = self.values[r]
        return [0]

    def clear(self, r):
        self.check([r], False, [])
        self.values.pop(r, None)
        return [0]

    def same(self, r, q):
        self.check([r, q], False, [r, q])
        heap, trail = list(self.heap), list(self.trail)
        if self.unify(self.values[r], self.values[q], set()):
            return [1]
        self.heap, self.trail = heap, trail
        return [0]

    def arg(self, r, i, q):
        self.check([r, q], False, [r])
        cell = self.end(self.values[r])
        if i >= len(self.parts(cell)):
            return [0]
        self.values[q] = (0, cell[1] + 1 + i)
        return [1]

    def choice(self):
        if len(self.choices) == 20:
            raise Refused(-8)
        self.choices.append((dict(self.values), len(self.heap), len(self.trail)))
        return [len(self.choices)]

    def back_to(self, number):
        values, heap_length, trail_length = self.choices[number]
        while len(self.trail) > trail_length:
            place = self.trail.pop()
            self.heap[place] = (0, place)
        del self.heap[heap_length:]
        self.values = dict(values)
        del self.choices[number + 1:]

    def back(self):
        if not self.choices:
            return [0]
        self.back_to(len(self.choices) - 1)
        return [1]

    def cut(self, k):
        while len(self.choices) > k:
            self.choices.pop()
        return [len(self.choices)]

    def size(self, cell, known):
        cell = self.end(cell)
        if cell not in known:
            known[cell] = 1 + sum(self.size(part, known) for part in self.parts(cell))
        return known[cell]

    def row(self, cell, variables):
        cell = self.end(cell)
        if cell[0] == 0:
            return [0, variables.setdefault(cell, len(variables))]
        parts = self.parts(cell)
        symbol = self.heap[cell[1]][1] if parts else cell[1]
        return sum((self.row(part, variables) for part in parts), [len(parts) + 1, symbol])

    def value(self, registers):
        self.check(registers, len(registers) > 16, registers)
        if any(self.size(self.values[r], {}) > 500 for r in registers):
            raise Refused(-5)
        variables = {}
        return sum((self.row(self.values[r], variables) for r in registers), [0])

    def look(self):
        return [len(self.heap), len(self.trail), len(self.choices)]

    def seen_from(self, cell, seen):
        kind, number = cell
        places = [number] if kind == 0 else range(number, number + self.heap[number][0] - 1) if kind == 2 else []
        for place in places:
            if place not in seen:
                seen.add(place)
                self.seen_from(self.heap[place], seen)

    def seen(self):
        seen = set()
        for cell in self.values.values():
            self.seen_from(cell, seen)
        return seen

    def seen_behind(self, number):
        other = copy.deepcopy(self)
        other.back_to(number)
        return other.seen()

    def sweep(self):
        now = self.seen()
        behind = [(trail_length, self.seen_behind(number)) for number, (_, _, trail_length) in enumerate(self.choices)]
        kept = sorted(now.union(*[seen for _, seen in behind]))
        stay, length_before = [], (len(self.heap), len(self.trail))
        for index, place in enumerate(self.trail):
            bound = place in now or any(place in seen for length, seen in behind if index < length)
            free = any(place in seen for length, seen in behind if index >= length)
            stay.append(bound and free)
            if not bound:
                self.heap[place] = (0, place)
            self.met["bound" if bound else "not bound", "free" if free else "not free"] += 1

        def moved(cell):
            return (cell[0], sum(place < cell[1] for place in kept)) if cell[0] in (0, 2) else cell

        def moved_values(values):
            return {r: moved(cell) for r, cell in values.items()}
        self.heap = [moved(self.heap[place]) for place in kept]
        self.values = moved_values(self.values)
        self.choices = [(moved_values(values), sum(place < heap_length for place in kept), sum(stay[:trail_length]))
                        for values, heap_length, trail_length in self.choices]
        self.trail = [moved((0, place))[1] for place, stays in zip(self.trail, stay) if stays]
        return [length_before[0] - len(self.heap), length_before[1] - len(self.trail)]

    def heap_told(self):
        told = [len(self.heap)] + [number for cell in self.heap for number in cell]
        told += [len(self.trail)] + self.trail
        return told + [len(self.choices)] + [length for _, *lengths in self.choices for length in lengths]

    def state(self):
        def registers(values):
            return [values.get(r) for r in range(16)]
        choices = [(registers(values), *lengths) for values, *lengths in self.choices]
        return self.heap, registers(self.values), self.trail, choices


def expected_of(model, name, given):
    return model.answer("heap_told" if name == "heap" else name, given)


def sort_of(answer):
    """A refusal or a single number as it is; of longer answers whether anything but 0 is told."""
    return answer[0] if len(answer) == 1 else "some" if any(answer) else "none"


class BesideTheModel(unittest.TestCase):
    def test_lines_of_100_calls(self):
        source = random.Random(20)
        told_of = collections.Counter()
        met = collections.Counter()
        for _ in range(800):
            calls = some_line(source, 100)
            model = Model()
            expected = [expected_of(model, name, given) for name, given in calls]
            self.assertEqual(split_answers(answers(as_numbers(calls))), expected, calls)
            told_of.update((name, sort_of(answer)) for (name, _), answer in zip(calls, expected))
            met.update(model.met)
        for name, refusals in (("new", [-2]), ("con", [-2, -1]), ("struct", [-2, -1, -4]), ("copy", [-2, -4]),
                               ("clear", [-2]), ("same", [-2, -4, 0, 1]), ("arg", [-2, -4, 0, 1]), ("back", [0, 1]),
                               ("cut", [0, 1, 2, 3]), ("choice", [-8, 1, 2, 3, 10, 20]),
                               ("value", [-2, -1, -4, -5, 0, "some"]), ("sweep", ["some", "none"]),
                               ("look", ["some"]), ("heap", ["some"])):
            for answer in refusals:
                self.assertGreater(told_of[name, answer], 20, (name, answer))
        for bound in ("bound", "not bound"):
            for free in ("free", "not free"):
                self.assertGreater(met[bound, free], 50, (bound, free))

    def test_all_that_the_machine_has_after_each_call(self):
        source = random.Random(21)
        for _ in range(150):
            model, machine = Model(), Machine()
            for name, given in some_line(source, 100):
                expected = expected_of(model, name, given)
                self.assertEqual(do(machine, MAKERS[name](*given)), [expected])
                self.assertEqual(state(machine), model.state())


if __name__ == "__main__":
    unittest.main()

"""Point 1: new, con, str, copy, clear."""

import unittest

from tests.helper import arg, clear, con, copy, last_told, machine_after, new, same, struct, told


class New(unittest.TestCase):
    def test_a_free_variable_comes_to_the_end(self):
        machine = machine_after(new(3), new(3), new(0))
        self.assertEqual(machine.heap, [(0, 0), (0, 1), (0, 2)])
        self.assertEqual(machine.registers, [(0, 2), None, None, (0, 1)] + [None] * 12)

    def test_two_are_not_one(self):
        self.assertEqual(told(new(0), new(1), con(2, 5), con(3, 6), same(0, 2), same(1, 3)), [0, 0, 0, 0, 1, 1])

    def test_a_new_one_forgets_the_old(self):
        self.assertEqual(told(new(0), con(1, 5), same(0, 1), new(0), con(1, 6), same(0, 1)), [0, 0, 1, 0, 0, 1])


class Con(unittest.TestCase):
    def test_the_constant_is_not_on_the_heap(self):
        machine = machine_after(con(15, 999), con(0, 0))
        self.assertEqual(machine.heap, [])
        self.assertEqual(machine.registers, [(1, 0)] + [None] * 14 + [(1, 999)])


class Str(unittest.TestCase):
    def test_head_and_cells_in_order(self):
        machine = machine_after(new(0), con(1, 8), struct(2, 7, [1, 0, 0, 1]))
        self.assertEqual(machine.heap, [(0, 0), (6, 7), (1, 8), (0, 0), (0, 0), (1, 8)])
        self.assertEqual(machine.registers[:3], [(0, 0), (1, 8), (2, 1)])

    def test_1_to_4_arguments(self):
        for length in range(1, 5):
            machine = machine_after(con(1, 8), struct(2, 7, [1] * length))
            self.assertEqual(machine.heap, [(2 + length, 7)] + [(1, 8)] * length)

    def test_structures_within(self):
        machine = machine_after(con(0, 1), struct(1, 2, [0]), struct(2, 3, [1, 0]))
        self.assertEqual(machine.heap, [(3, 2), (1, 1), (4, 3), (2, 0), (1, 1)])
        self.assertEqual(machine.registers[2], (2, 2))

    def test_cells_are_not_looked_through(self):
        machine = machine_after(new(0), new(1), same(0, 1), con(2, 5), same(0, 2), struct(3, 9, [1, 0, 2]))
        self.assertEqual(machine.heap, [(1, 5), (0, 0), (5, 9), (0, 1), (0, 0), (1, 5)])

    def test_the_place_of_an_argument_is_not_looked_through(self):
        machine = machine_after(con(0, 5), struct(1, 9, [0]), arg(1, 0, 2), struct(3, 8, [2]))
        self.assertEqual(machine.heap, [(3, 9), (1, 5), (3, 8), (0, 1)])

    def test_r_among_its_own_registers(self):
        machine = machine_after(new(0), struct(0, 4, [0, 0]), struct(0, 4, [0, 0]))
        self.assertEqual(machine.heap, [(0, 0), (4, 4), (0, 0), (0, 0), (4, 4), (2, 1), (2, 1)])
        self.assertEqual(machine.registers[0], (2, 4))

    def test_r_among_its_own_registers_by_answers(self):
        self.assertEqual(told(con(0, 5), con(1, 5), struct(0, 4, [0]), arg(0, 0, 2), same(2, 1), same(2, 0)),
                         [0, 0, 0, 1, 1, 0])


class CopyAndClear(unittest.TestCase):
    def test_copy(self):
        machine = machine_after(new(0), con(1, 2), struct(2, 3, [0]), copy(0, 4), copy(1, 5), copy(2, 0))
        self.assertEqual(machine.registers[:6], [(2, 1), (1, 2), (2, 1), None, (0, 0), (1, 2)])
        self.assertEqual(machine.heap, [(0, 0), (3, 3), (0, 0)])

    def test_copy_does_not_look_through(self):
        machine = machine_after(new(0), con(1, 2), same(0, 1), copy(0, 2))
        self.assertEqual(machine.registers[:3], [(0, 0), (1, 2), (0, 0)])

    def test_copy_of_a_free_variable_is_the_same_one(self):
        self.assertEqual(last_told(new(0), copy(0, 1), con(2, 1), same(0, 2), con(3, 2), same(1, 3)), 0)

    def test_copy_is_of_what_r_has_then(self):
        self.assertEqual(last_told(con(0, 1), copy(0, 1), con(0, 2), same(0, 1)), 0)

    def test_copy_to_itself(self):
        machine = machine_after(con(3, 1), copy(3, 3))
        self.assertEqual(machine.registers, [None] * 3 + [(1, 1)] + [None] * 12)

    def test_clear(self):
        machine = machine_after(new(0), copy(0, 1), con(2, 3), clear(0), clear(2), clear(5))
        self.assertEqual(machine.registers, [None, (0, 0)] + [None] * 14)
        self.assertEqual(machine.heap, [(0, 0)])

    def test_what_was_cleared_can_be_filled(self):
        self.assertEqual(told(new(0), clear(0), copy(0, 1), con(0, 1), copy(0, 1)), [0, 0, -4, 0, 0])


if __name__ == "__main__":
    unittest.main()

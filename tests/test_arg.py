"""Point 3: arg."""

import unittest

from tests.helper import arg, con, copy, do, last_told, machine_after, new, same, state, struct, told


class Arg(unittest.TestCase):
    def test_the_place_of_each_argument(self):
        for length in range(1, 5):
            for i in range(length):
                machine = machine_after(con(0, 9), struct(1, 5, [0] * length), struct(2, 5, [0] * length))
                heap = list(machine.heap)
                self.assertEqual(do(machine, arg(2, i, 3)), [[1]])
                self.assertEqual(machine.registers[:4], [(1, 9), (2, 0), (2, length + 1), (0, length + 2 + i)])
                self.assertEqual(machine.heap, heap)

    def test_i_at_and_above_the_number_of_arguments(self):
        for length in range(1, 5):
            for i in (length, length + 1, 5, 15, 16, 999, 1000):
                machine = machine_after(con(0, 9), struct(1, 5, [0] * length), struct(2, 5, [0] * 4))
                before = state(machine)
                self.assertEqual(do(machine, arg(1, i, 0)), [[0]])
                self.assertEqual(state(machine), before)

    def test_by_answers(self):
        constants = [con(k, k) for k in range(4)]
        for i in range(4):
            given = told(*constants, struct(4, 5, [0, 1, 2, 3]), arg(4, i, 5), *[same(5, k) for k in range(4)])
            self.assertEqual(given[5:], [1] + [1 if k == i else 0 for k in range(4)])

    def test_a_variable_that_is_bound_to_a_structure(self):
        machine = machine_after(new(0), new(1), same(0, 1), con(2, 3), struct(3, 5, [2, 2]), same(1, 3))
        self.assertEqual(do(machine, arg(1, 1, 4), arg(0, 0, 5), arg(1, 2, 6)), [[1], [1], [0]])
        self.assertEqual(machine.registers[4:7], [(0, 4), (0, 3), None])

    def test_the_argument_is_not_looked_through(self):
        machine = machine_after(new(0), struct(1, 5, [0]), arg(1, 0, 2))
        self.assertEqual(machine.registers[2], (0, 2))

    def test_an_argument_that_is_a_structure(self):
        built = [con(0, 9), struct(1, 6, [0]), struct(2, 5, [1]), arg(2, 0, 3), arg(3, 0, 4), arg(3, 1, 5), same(4, 0)]
        self.assertEqual(told(*built)[-4:], [1, 1, 0, 1])

    def test_a_free_variable(self):
        machine = machine_after(new(0), con(1, 4))
        before = state(machine)
        self.assertEqual(do(machine, arg(0, 0, 1)), [[0]])
        self.assertEqual(state(machine), before)

    def test_a_free_variable_ahead_of_a_structure(self):
        # The cells behind a free variable's place are not its arguments.
        self.assertEqual(last_told(new(0), struct(1, 5, [0]), arg(0, 0, 2)), 0)

    def test_a_constant(self):
        machine = machine_after(con(0, 4), new(1), struct(2, 4, [1]))
        before = state(machine)
        self.assertEqual(do(machine, arg(0, 0, 1)), [[0]])
        self.assertEqual(state(machine), before)

    def test_a_variable_that_is_bound_to_a_constant(self):
        self.assertEqual(last_told(new(0), con(1, 4), same(0, 1), arg(0, 0, 2)), 0)

    def test_q_is_as_it_was_when_the_answer_is_0(self):
        self.assertEqual(told(con(0, 1), con(1, 2), con(2, 2), arg(0, 0, 1), same(1, 2))[-2:], [0, 1])
        self.assertEqual(told(con(0, 1), arg(0, 0, 1), copy(1, 2))[-2:], [0, -4])
        self.assertEqual(told(con(0, 1), struct(1, 5, [0]), arg(1, 1, 1), arg(1, 0, 2))[-2:], [0, 1])

    def test_r_and_q_one_register(self):
        self.assertEqual(told(con(0, 1), struct(1, 5, [0]), arg(1, 0, 1), same(0, 1))[-2:], [1, 1])
        machine = machine_after(con(0, 1), struct(1, 5, [0]), arg(1, 0, 1))
        self.assertEqual(machine.registers[1], (0, 1))

    def test_binding_an_argument_binds_the_variable(self):
        built = [new(0), struct(1, 5, [0]), arg(1, 0, 2), con(3, 7), same(2, 3), con(4, 8), same(0, 4), same(0, 3)]
        self.assertEqual(told(*built)[-4:], [1, 0, 0, 1])


if __name__ == "__main__":
    unittest.main()

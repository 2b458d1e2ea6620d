"""Point 5: value."""

import unittest

from tests.helper import (arg, back, choice, con, copy, do, few_nested_calls, last_told_each, machine_after, new, same,
                          state, struct, sweep, told_each, value, within)

# Register 0 has a term of size 341, 1 one of 85, 2 one of 21, 3 one of 5, all with constants alone.
TOWERS = [con(0, 1), struct(3, 5, [0] * 4), struct(2, 5, [3] * 4), struct(1, 5, [2] * 4), struct(0, 5, [1] * 4)]
# Register 4 has one of size 499 then: 341 + 85 + 1, and thrice 21 + 1, and 5 + 1.
SIZE_499 = TOWERS + [struct(4, 6, [0, 1])] + [struct(4, 6, [4, 2])] * 3 + [struct(4, 6, [4, 3])]
SIZE_500 = SIZE_499 + [struct(4, 6, [4])]
SIZE_501 = SIZE_500 + [struct(4, 6, [4])]


class Rows(unittest.TestCase):
    def test_a_variable(self):
        self.assertEqual(last_told_each(new(0), value([0])), [0, 0, 0])

    def test_a_constant(self):
        self.assertEqual(last_told_each(con(0, 0), con(1, 999), value([0, 1])), [0, 1, 0, 1, 999])

    def test_structures_of_1_to_4_arguments(self):
        constants = [con(k, 10 + k) for k in range(4)]
        for length in range(1, 5):
            row = [number for k in range(length) for number in (1, 10 + k)]
            self.assertEqual(last_told_each(*constants, struct(4, 999, range(length)), value([4])),
                             [0, length + 1, 999] + row)

    def test_arguments_in_order_and_within_one_another(self):
        # f(g(1, x), 2, h(y, g(1, x), x))
        built = [con(0, 1), new(1), con(2, 2), new(3), struct(4, 7, [0, 1]), struct(5, 8, [3, 4, 1]),
                 struct(6, 6, [4, 2, 5])]
        self.assertEqual(last_told_each(*built, value([6])),
                         [0, 4, 6, 3, 7, 1, 1, 0, 0, 1, 2, 4, 8, 0, 1, 3, 7, 1, 1, 0, 0, 0, 0])

    def test_cells_are_looked_through(self):
        built = [new(0), new(1), new(2), same(0, 1), same(1, 2), struct(3, 5, [2, 1]), con(4, 9), same(2, 4)]
        self.assertEqual(last_told_each(*built, value([3, 2, 1])), [0, 3, 5, 1, 9, 1, 9, 1, 9, 1, 9])

    def test_a_variable_that_is_bound_to_a_structure(self):
        built = [new(0), con(1, 3), struct(2, 5, [1]), same(0, 2), struct(3, 6, [0, 0])]
        self.assertEqual(last_told_each(*built, value([0, 3])), [0, 2, 5, 1, 3, 3, 6, 2, 5, 1, 3, 2, 5, 1, 3])

    def test_the_place_of_an_argument(self):
        built = [new(0), con(1, 3), struct(2, 5, [1, 0]), arg(2, 0, 3), arg(2, 1, 4)]
        self.assertEqual(last_told_each(*built, value([3, 4, 0])), [0, 1, 3, 0, 0, 0, 0])


class Variables(unittest.TestCase):
    def test_numbered_as_they_come_first(self):
        built = [new(k) for k in range(4)] + [struct(4, 5, [3, 1, 3, 0])]
        self.assertEqual(last_told_each(*built, value([4])), [0, 5, 5, 0, 0, 0, 1, 0, 0, 0, 2])

    def test_over_all_rows_together(self):
        built = [new(k) for k in range(4)] + [struct(4, 5, [3, 1]), struct(5, 6, [1, 2])]
        self.assertEqual(last_told_each(*built, value([2, 4, 5, 0, 3])),
                         [0, 0, 0, 3, 5, 0, 1, 0, 2, 3, 6, 0, 2, 0, 0, 0, 3, 0, 1])

    def test_made_the_same_they_are_one(self):
        built = [new(0), new(1), new(2), same(0, 2)]
        self.assertEqual(last_told_each(*built, value([0, 1, 2])), [0, 0, 0, 0, 1, 0, 0])

    def test_anew_at_each_call(self):
        self.assertEqual(told_each(new(0), new(1), value([0]), value([1]), value([1, 0]))[2:],
                         [[0, 0, 0], [0, 0, 0], [0, 0, 0, 0, 1]])


class Registers(unittest.TestCase):
    def test_an_empty_list(self):
        self.assertEqual(told_each(value([])), [[0]])
        self.assertEqual(last_told_each(new(0), value([])), [0])

    def test_the_same_one_twice(self):
        self.assertEqual(last_told_each(new(0), con(1, 4), struct(2, 5, [0, 1]), value([2, 2])),
                         [0, 3, 5, 0, 0, 1, 4, 3, 5, 0, 0, 1, 4])

    def test_the_same_one_16_times(self):
        self.assertEqual(last_told_each(new(15), value([15] * 16)), [0] + [0, 0] * 16)

    def test_all_16_in_any_order(self):
        built = [con(k, 100 + k) for k in range(16)]
        self.assertEqual(last_told_each(*built, value(range(15, -1, -1))),
                         [0] + [number for k in range(15, -1, -1) for number in (1, 100 + k)])

    def test_nothing_is_done(self):
        machine = machine_after(new(0), new(1), choice(), same(0, 1), struct(2, 5, [0, 1]))
        before = state(machine)
        do(machine, value([2, 1, 0]), value([]), value([3]), value([16]), value([0] * 17))
        self.assertEqual(state(machine), before)


class Size(unittest.TestCase):
    def test_499_500_and_501(self):
        self.assertEqual(len(last_told_each(*SIZE_499, value([4]))), 1 + 2 * 499)
        self.assertEqual(len(last_told_each(*SIZE_500, value([4]))), 1 + 2 * 500)
        self.assertEqual(last_told_each(*SIZE_501, value([4])), [-5])

    def test_variables_count_too(self):
        for built, answer in ((SIZE_500, 1 + 2 * 500), (SIZE_501, 1)):
            self.assertEqual(len(last_told_each(new(0), *built[1:], value([4]))), answer)

    def test_each_by_itself(self):
        self.assertEqual(len(last_told_each(*SIZE_500, value([4] * 16))), 1 + 2 * 500 * 16)
        self.assertEqual(len(last_told_each(*SIZE_500, value([4, 0, 1, 2, 3]))), 1 + 2 * (500 + 341 + 85 + 21 + 5))

    def test_one_of_several_too_large(self):
        for registers in ([0, 4], [4, 0], [0, 4, 1], [4, 4], [0] * 15 + [4]):
            self.assertEqual(last_told_each(*SIZE_501, value(registers)), [-5])

    def test_what_is_looked_through_does_not_count(self):
        # A term of 500 behind two variables is one of 500 still.
        behind = [new(5), new(6), same(5, 6), same(6, 4)]
        self.assertEqual(len(last_told_each(*SIZE_500, *behind, value([6]))), 1 + 2 * 500)
        self.assertEqual(last_told_each(*SIZE_501, *behind, value([6])), [-5])

    def test_grown_by_binding_and_small_again(self):
        # f(x, x) has size 3, and 683 as long as x is bound to a term of size 341.
        built = TOWERS + [new(4), struct(5, 6, [4, 4]), choice(), value([5]), same(4, 0), value([5]), back(),
                          value([5])]
        given = told_each(*built)
        self.assertEqual((given[-5], given[-3], given[-1]), ([0, 3, 6, 0, 0, 0, 0], [-5], [0, 3, 6, 0, 0, 0, 0]))

    def test_all_is_as_it_was_when_refused(self):
        machine = machine_after(*SIZE_501, choice(), new(5), same(5, 4))
        before = state(machine)
        self.assertEqual(do(machine, value([4])), [[-5]])
        self.assertEqual(state(machine), before)


class DeepAndShared(unittest.TestCase):
    def test_far_beyond_counting(self):
        for bottom in (con(0, 1), new(0)):
            with within(20):
                given = told_each(bottom, *[struct(0, 5, [0] * 4)] * 90, value([0]), value([0] * 16), sweep(),
                                  value([0]))
            self.assertEqual(given[91:], [[-5], [-5], [0, 0], [-5]])

    def test_shared_through_bound_variables(self):
        step = [new(1), same(1, 0), struct(0, 5, [1, 1, 1, 1])]
        with within(20):
            self.assertEqual(last_told_each(con(0, 1), *step * 32, value([1, 0])), [-5])

    def test_a_deep_one(self):
        with few_nested_calls(40):
            self.assertEqual(last_told_each(con(0, 1), *[struct(0, 5, [0])] * 98, value([0])),
                             [0] + [2, 5] * 98 + [1, 1])

    def test_deep_to_the_left_and_to_the_right(self):
        for listed in ([0, 1], [1, 0]):
            with few_nested_calls(40):
                row = last_told_each(con(0, 1), con(1, 2), *[struct(0, 5, listed)] * 97, value([0]))
            if listed == [0, 1]:
                self.assertEqual(row, [0] + [3, 5] * 97 + [1, 1] + [1, 2] * 97)
            else:
                self.assertEqual(row, [0] + [3, 5, 1, 2] * 97 + [1, 1])

    def test_long_ways_to_look_through(self):
        steps = [step for k in range(48) for step in (struct(0, 5, [0]), arg(0, 0, 0))]
        with few_nested_calls(40):
            self.assertEqual(last_told_each(new(0), copy(0, 1), *steps, value([0, 1])), [0, 0, 0, 0, 0])


if __name__ == "__main__":
    unittest.main()

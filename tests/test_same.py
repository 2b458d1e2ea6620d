"""Point 2: making two cells the same."""

import unittest

from sweptheapdesk.state import Choice
from tests.helper import (arg, con, copy, do, few_nested_calls, last_told, machine_after, new, same, state, struct, told,
                          within)


class TwoCells(unittest.TestCase):
    def nothing_done(self, built, call, answer):
        machine = machine_after(*built)
        before = state(machine)
        self.assertEqual(do(machine, call), [[answer]])
        self.assertEqual(state(machine), before)

    def test_equal_cells(self):
        self.nothing_done([new(0)], same(0, 0), 1)
        self.nothing_done([new(0), copy(0, 1)], same(0, 1), 1)
        self.nothing_done([con(0, 5), con(1, 5)], same(0, 1), 1)
        self.nothing_done([new(0), struct(1, 5, [0]), copy(1, 2)], same(2, 1), 1)

    def test_equal_when_looked_through(self):
        self.nothing_done([new(0), new(1), same(0, 1)], same(0, 1), 1)
        self.nothing_done([new(0), con(1, 5), same(0, 1)], same(1, 0), 1)

    def test_constants(self):
        self.nothing_done([con(0, 5), con(1, 6)], same(0, 1), 0)
        self.nothing_done([con(0, 0), con(1, 999)], same(0, 1), 0)

    def test_constant_and_structure(self):
        self.nothing_done([con(0, 5), struct(1, 5, [0])], same(0, 1), 0)
        self.nothing_done([con(0, 5), struct(1, 5, [0])], same(1, 0), 0)

    def test_of_two_free_variables_the_greater_is_bound(self):
        for call in (same(0, 1), same(1, 0)):
            machine = machine_after(new(0), new(1), call)
            self.assertEqual(machine.heap, [(0, 0), (0, 0)])
            self.assertEqual(machine.registers[:2], [(0, 0), (0, 1)])

    def test_of_two_that_are_bound_the_ends_count(self):
        machine = machine_after(new(0), new(1), new(2), new(3), same(0, 3), same(1, 2))
        self.assertEqual(machine.heap, [(0, 0), (0, 1), (0, 1), (0, 0)])
        self.assertEqual(do(machine, same(3, 2)), [[1]])
        self.assertEqual(machine.heap, [(0, 0), (0, 0), (0, 1), (0, 0)])

    def test_a_row_of_variables_bound_one_to_another(self):
        count = 15
        variables = [new(k) for k in range(count)]
        bound = [same(k, k - 1) for k in range(count - 1, 0, -1)]
        machine = machine_after(*variables, *bound)
        self.assertEqual(machine.heap, [(0, max(0, k - 1)) for k in range(count)])
        self.assertEqual(do(machine, con(15, 4), same(14, 15), same(0, 15)), [[0], [1], [1]])
        self.assertEqual(machine.heap[:2], [(1, 4), (0, 0)])

    def test_a_free_variable_and_a_constant(self):
        for call in (same(0, 1), same(1, 0)):
            machine = machine_after(new(0), con(1, 7), call)
            self.assertEqual(machine.heap, [(1, 7)])
            self.assertEqual(machine.registers[:2], [(0, 0), (1, 7)])

    def test_a_free_variable_and_a_structure(self):
        for call in (same(0, 1), same(1, 0)):
            machine = machine_after(new(0), con(2, 7), struct(1, 3, [2]), call)
            self.assertEqual(machine.heap, [(2, 1), (3, 3), (1, 7)])

    def test_what_it_is_bound_to_is_looked_through(self):
        machine = machine_after(new(0), new(1), con(2, 7), same(1, 2), same(0, 1))
        self.assertEqual(machine.heap, [(1, 7), (1, 7)])

    def test_a_bound_variable_is_not_bound_again(self):
        self.assertEqual(told(new(0), con(1, 1), con(2, 2), same(0, 1), same(0, 2), same(0, 1)), [0, 0, 0, 1, 0, 1])

    def test_one_and_the_same_register(self):
        for built in (new(0), con(0, 4)):
            self.assertEqual(last_told(built, same(0, 0)), 1)


class Structures(unittest.TestCase):
    def test_other_symbols(self):
        self.assertEqual(last_told(new(0), struct(1, 5, [0]), struct(2, 6, [0]), same(1, 2)), 0)

    def test_other_numbers_of_arguments(self):
        for one in range(1, 5):
            for other in range(1, 5):
                answer = last_told(con(0, 9), struct(1, 5, [0] * one), struct(2, 5, [0] * other), same(1, 2))
                self.assertEqual(answer, 1 if one == other else 0)

    def test_each_argument_counts(self):
        for length in range(1, 5):
            for at in range(length):
                listed = [0] * length
                listed[at] = 1
                built = [con(0, 9), con(1, 8), struct(2, 5, [0] * length), struct(3, 5, listed)]
                self.assertEqual(last_told(*built, same(2, 3)), 0)
                self.assertEqual(last_told(*built, same(3, 2)), 0)

    def test_each_argument_is_made_the_same(self):
        variables = [new(k) for k in range(4)]
        constants = [con(k, k) for k in range(4, 8)]
        machine = machine_after(*variables, *constants, struct(8, 5, [0, 1, 2, 3]), struct(9, 5, [4, 5, 6, 7]))
        self.assertEqual(do(machine, same(8, 9)), [[1]])
        self.assertEqual(machine.heap[:4], [(1, 4), (1, 5), (1, 6), (1, 7)])

    def test_pairs_in_order(self):
        # The first pair decides which structure the variable is bound to: later pairs find it bound.
        machine = machine_after(new(0), con(1, 7), struct(2, 3, [1]), struct(3, 3, [1]), struct(4, 5, [0, 0]),
                                struct(5, 5, [2, 3]))
        self.assertEqual(do(machine, same(4, 5)), [[1]])
        self.assertEqual(machine.heap[0], (2, 1))

    def test_each_pair_whole_before_the_next(self):
        # x stands deep in the first pair and at once in the second: the deep one comes first.
        machine = machine_after(new(0), con(1, 7), struct(2, 3, [1]), struct(3, 3, [1]), struct(4, 6, [0]),
                                struct(5, 6, [2]), struct(6, 5, [4, 0]), struct(7, 5, [5, 3]), same(6, 7))
        self.assertEqual(machine.heap[0], (2, 1))

    def test_what_is_bound_in_one_pair_holds_in_the_next(self):
        built = [new(0), con(1, 7), con(2, 8), struct(3, 5, [0, 0]), struct(4, 5, [1, 2]), struct(5, 5, [1, 1])]
        self.assertEqual(last_told(*built, same(3, 4)), 0)
        self.assertEqual(told(*built, same(3, 5), same(0, 1))[-2:], [1, 1])

    def test_made_the_same_by_variables_of_both_sides(self):
        # f(x, g(x)) and f(1, y)
        machine = machine_after(new(0), new(1), con(2, 1), struct(3, 6, [0]), struct(4, 5, [0, 3]),
                                struct(5, 5, [2, 1]), struct(6, 6, [2]))
        self.assertEqual(do(machine, same(4, 5), same(1, 6), same(0, 2)), [[1], [1], [1]])

    def test_a_structure_that_was_met_before_counts_again_with_another(self):
        # f(s, s) and f(t, u): that s and t are the same says nothing of s and u.
        built = [con(0, 1), con(1, 2), struct(2, 4, [0]), struct(3, 4, [0]), struct(4, 4, [1]), struct(5, 9, [2, 2]),
                 struct(6, 9, [3, 4])]
        self.assertEqual(last_told(*built, same(5, 6)), 0)
        self.assertEqual(last_told(*built, same(6, 5)), 0)


class VariableWithin(unittest.TestCase):
    def test_in_its_arguments(self):
        for at in range(4):
            listed = [1, 1, 1, 1]
            listed[at] = 0
            for call in (same(0, 2), same(2, 0)):
                machine = machine_after(new(0), con(1, 3), struct(2, 5, listed))
                before = state(machine)
                self.assertEqual(do(machine, call), [[0]])
                self.assertEqual(state(machine), before)

    def test_deep_within(self):
        for depth in (2, 3, 10, 90):
            with few_nested_calls(40):
                self.assertEqual(last_told(new(0), copy(0, 1), *[struct(1, 5, [1])] * depth, same(0, 1)), 0)
                self.assertEqual(last_told(new(0), new(1), *[struct(1, 5, [1])] * depth, same(0, 1)), 1)

    def test_through_bound_variables(self):
        # y is bound to g(x): x does not fit f(y).
        built = [new(0), new(1), struct(2, 6, [0]), same(1, 2), struct(3, 5, [1])]
        self.assertEqual(last_told(*built, same(0, 3)), 0)

    def test_through_variables_bound_to_variables(self):
        built = [new(0), new(1), same(0, 1), struct(2, 5, [1])]
        self.assertEqual(last_told(*built, same(0, 2)), 0)
        self.assertEqual(last_told(*built, same(1, 2)), 0)

    def test_across_two_pairs(self):
        # f(x, y) and f(g(y), g(x)): the first pair fits, then y stands in g(g(y)).
        built = [new(0), new(1), struct(2, 6, [0]), struct(3, 6, [1]), struct(4, 5, [0, 1]), struct(5, 5, [3, 2])]
        machine = machine_after(*built)
        before = state(machine)
        self.assertEqual(do(machine, same(4, 5)), [[0]])
        self.assertEqual(state(machine), before)

    def test_another_variable_does_not_count(self):
        self.assertEqual(last_told(new(0), new(1), struct(2, 5, [1]), same(0, 2)), 1)

    def test_a_variable_bound_elsewhere_meanwhile(self):
        # f(x, x) and f(y, g(y)): x is y then, and stands in g(y).
        built = [new(0), new(1), struct(2, 6, [1]), struct(3, 5, [0, 0]), struct(4, 5, [1, 2])]
        self.assertEqual(last_told(*built, same(3, 4)), 0)


class FailsLate(unittest.TestCase):
    def test_nothing_is_left_bound(self):
        built = [new(0), new(1), new(2), con(3, 1), con(4, 2), struct(5, 5, [0, 1, 2, 3]), struct(6, 5, [3, 2, 4, 4])]
        for call in (same(5, 6), same(6, 5)):
            machine = machine_after(*built)
            before = state(machine)
            self.assertEqual(do(machine, call), [[0]])
            self.assertEqual(state(machine), before)

    def test_by_answers(self):
        built = [new(0), new(1), con(2, 1), con(3, 2), struct(4, 5, [0, 1, 2]), struct(5, 5, [2, 2, 3])]
        self.assertEqual(told(*built, same(4, 5), same(0, 3), same(1, 3), same(1, 2))[-4:], [0, 1, 1, 0])

    def test_what_was_bound_before_stays_bound(self):
        built = [new(0), new(1), con(2, 1), con(3, 2), same(0, 2), struct(4, 5, [0, 1, 2]), struct(5, 5, [2, 2, 3])]
        self.assertEqual(told(*built, same(4, 5), same(0, 3), same(1, 3))[-3:], [0, 0, 1])

    def test_with_a_choice_the_trail_is_as_it_was_too(self):
        machine = machine_after(new(0), new(1), con(2, 1), con(3, 2))
        machine.choices.append(Choice(list(machine.registers), 2, 0))
        do(machine, new(6), same(0, 3), struct(4, 5, [6, 1, 2]), struct(5, 5, [2, 2, 3]))
        before = state(machine)
        self.assertEqual(before[2], [0])
        self.assertEqual(do(machine, same(4, 5)), [[0]])
        self.assertEqual(state(machine), before)


class Trail(unittest.TestCase):
    def with_choice(self, *heap_lengths):
        machine = machine_after(*[new(k) for k in range(4)], con(15, 1))
        for heap_length in heap_lengths:
            machine.choices.append(Choice(list(machine.registers), heap_length, len(machine.trail)))
        return machine

    def test_without_a_choice_it_stays_empty(self):
        machine = self.with_choice()
        do(machine, same(0, 1), same(2, 15), same(3, 15))
        self.assertEqual(machine.trail, [])

    def test_what_is_older_than_the_choice_comes_to_the_end(self):
        machine = self.with_choice(2)
        do(machine, same(2, 15), same(1, 15), same(3, 15), same(0, 15))
        self.assertEqual(machine.trail, [1, 0])
        self.assertEqual(machine.heap, [(1, 1)] * 4)

    def test_the_topmost_choice_counts(self):
        machine = self.with_choice(1, 3)
        do(machine, same(3, 15), same(2, 15), same(0, 15))
        self.assertEqual(machine.trail, [2, 0])

    def test_the_place_that_is_bound_comes_there(self):
        machine = self.with_choice(4)
        do(machine, same(0, 3), same(2, 1))
        self.assertEqual(machine.trail, [3, 2])

    def test_nothing_comes_there_where_nothing_is_bound(self):
        machine = self.with_choice(4)
        do(machine, same(0, 0), same(15, 15), new(4), con(5, 1), struct(6, 1, [0]), arg(6, 0, 7), copy(0, 1))
        self.assertEqual(machine.trail, [])

    def test_of_several_pairs_in_order(self):
        machine = self.with_choice(4)
        do(machine, struct(4, 1, [2, 0, 3, 1]), struct(5, 1, [15, 15, 15, 15]), same(4, 5))
        self.assertEqual(machine.trail, [2, 0, 3, 1])


class DeepAndShared(unittest.TestCase):
    def test_as_deep_as_100_calls_build(self):
        tower = [con(0, 1), con(1, 1)] + [struct(0, 5, [0]), struct(1, 5, [1])] * 48
        with few_nested_calls(40):
            self.assertEqual(last_told(*tower, same(0, 1)), 1)
            self.assertEqual(last_told(con(0, 2), *tower[1:], same(0, 1)), 0)
            self.assertEqual(last_told(new(0), *tower[1:], same(0, 1)), 1)
            self.assertEqual(last_told(*tower, struct(0, 5, [0]), same(0, 1)), 0)

    def test_deep_through_places(self):
        # Each step's argument is the place of the one before: a long way to look through.
        steps = [step for k in range(48) for step in (struct(0, 5, [0]), arg(0, 0, 0))]
        with few_nested_calls(40):
            self.assertEqual(told(con(0, 1), *steps, con(1, 1), same(0, 1))[-1], 1)
            self.assertEqual(told(con(0, 1), *steps, con(1, 2), same(0, 1))[-1], 0)

    def test_shared_constants(self):
        towers = [con(0, 1), con(1, 1)] + [struct(0, 5, [0] * 4), struct(1, 5, [1] * 4)] * 48
        with within(20):
            self.assertEqual(told(*towers, same(0, 1), same(1, 0))[-2:], [1, 1])

    def test_shared_and_unlike_at_the_bottom(self):
        towers = [con(0, 1), con(1, 2)] + [struct(0, 5, [0] * 4), struct(1, 5, [1] * 4)] * 48
        with within(20):
            self.assertEqual(last_told(*towers, same(0, 1)), 0)

    def test_shared_variables(self):
        towers = [new(0), new(1), copy(0, 2), copy(1, 3)] + [struct(0, 5, [0] * 4), struct(1, 5, [1] * 4)] * 46
        with within(20):
            self.assertEqual(told(*towers, same(0, 1), con(4, 1), same(2, 4), same(3, 4))[-4:], [1, 0, 1, 1])

    def test_a_variable_in_a_shared_term(self):
        tower = [new(0), copy(0, 1)] + [struct(1, 5, [1] * 4)] * 95
        other = [new(0), new(1)] + [struct(1, 5, [1] * 4)] * 95
        with within(20):
            self.assertEqual(last_told(*tower, same(0, 1)), 0)
            self.assertEqual(last_told(*other, same(0, 1)), 1)

    def test_shared_through_bound_variables(self):
        # Each step has a variable that is bound to the step before, four times as argument.
        step = [new(2), same(2, 0), struct(0, 5, [2] * 4), new(3), same(1, 3), struct(1, 5, [3] * 4)]
        with within(20):
            self.assertEqual(last_told(con(0, 1), con(1, 1), *step * 16, same(0, 1)), 1)
            self.assertEqual(last_told(con(0, 1), con(1, 2), *step * 16, same(0, 1)), 0)

    def test_terms_that_double_as_they_are_made_the_same(self):
        # f(x1, x2, x3, x4) and f(g(x0, x0), g(x1, x1), g(x2, x2), g(x3, x3)), then once more with other variables.
        def chain(first):
            numbers = list(range(first, first + 5))
            pairs = [struct(10 + k, 6, [numbers[k]] * 2) for k in range(4)]
            return [new(k) for k in numbers] + pairs + [
                struct(14, 5, numbers[1:]), struct(15, 5, [10, 11, 12, 13]), same(14, 15)]
        with within(20):
            given = told(*chain(0), *chain(5), same(4, 9), con(15, 3), same(0, 15), same(5, 15))
        self.assertEqual((given[11], given[23]), (1, 1))
        self.assertEqual(given[-4:], [1, 0, 1, 1])


if __name__ == "__main__":
    unittest.main()

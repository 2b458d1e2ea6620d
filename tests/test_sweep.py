"""Point 6: sweep."""

import unittest

from tests.helper import (arg, back, choice, clear, con, copy, cut, do, few_nested_calls, heap, last_told_each, look,
                          machine_after, new, same, state, struct, sweep, told_each, value, within)


class Swept(unittest.TestCase):
    def swept(self, calls, less, heap_behind):
        """What sweep answers behind the calls, and what heap and look tell then; gives back the machine."""
        machine = machine_after(*calls)
        self.assertEqual(do(machine, sweep(), heap()), [less, heap_behind])
        trail_at = 1 + 2 * heap_behind[0]
        choices_at = trail_at + 1 + heap_behind[trail_at]
        self.assertEqual(do(machine, look()), [[heap_behind[0], heap_behind[trail_at], heap_behind[choices_at]]])
        return machine


class NothingToTakeAway(Swept):
    def test_at_the_beginning(self):
        self.assertEqual(told_each(sweep(), sweep(), heap()), [[0, 0], [0, 0], [0, 0, 0]])

    def test_all_is_as_it_was(self):
        for calls in ([new(0)], [con(0, 7)], [new(0), con(1, 7), struct(2, 5, [0, 1])], [choice(), choice()],
                      [new(0), new(1), same(0, 1), choice()],
                      [new(0), con(1, 7), choice(), same(0, 1), choice(), new(2)]):
            machine = machine_after(*calls)
            before = state(machine)
            self.assertEqual(do(machine, sweep()), [[0, 0]])
            self.assertEqual(state(machine), before)

    def test_bound_places_on_the_way_are_kept(self):
        self.swept([new(0), new(1), new(2), same(1, 2), same(0, 1), clear(0), clear(1)], [0, 0],
                   [3, 0, 0, 0, 0, 0, 1, 0, 0])


class TakenAway(Swept):
    def test_a_variable(self):
        machine = self.swept([new(0), new(1), clear(0)], [1, 0], [1, 0, 0, 0, 0])
        self.assertEqual(machine.registers[:2], [None, (0, 0)])

    def test_all(self):
        self.swept([new(0), struct(1, 5, [0]), clear(0), con(1, 3)], [3, 0], [0, 0, 0])

    def test_a_structure(self):
        machine = self.swept([con(0, 1), struct(1, 5, [0, 0]), struct(2, 6, [0]), clear(1)], [3, 0],
                             [2, 3, 6, 1, 1, 0, 0])
        self.assertEqual(do(machine, value([2, 0])), [[0, 2, 6, 1, 1, 1, 1]])

    def test_what_was_bound_to_the_rest(self):
        self.swept([new(0), new(1), new(2), same(1, 2), same(0, 1), clear(2), clear(1)], [2, 0], [1, 0, 0, 0, 0])

    def test_what_a_register_had_before(self):
        self.swept([new(0), new(0), new(0)], [2, 0], [1, 0, 0, 0, 0])

    def test_the_rest_moves_together_in_order(self):
        calls = [new(0), new(1), new(2), struct(3, 5, [2, 1]), new(9), struct(4, 6, [3]), clear(0), clear(1), clear(2),
                 clear(3), clear(9)]
        machine = self.swept(calls, [2, 0], [7, 0, 0, 0, 1, 4, 5, 0, 1, 0, 0, 3, 6, 2, 2, 0, 0])
        self.assertEqual(machine.registers, [None] * 4 + [(2, 5)] + [None] * 11)
        self.assertEqual(do(machine, value([4])), [[0, 2, 6, 3, 5, 0, 0, 0, 1]])

    def test_an_argument_is_kept_without_its_structure(self):
        calls = [con(0, 1), new(1), struct(2, 5, [0, 1, 0]), arg(2, 0, 3), arg(2, 1, 4), clear(1), clear(2)]
        machine = self.swept(calls, [2, 0], [3, 0, 0, 1, 1, 0, 0, 0, 0])
        self.assertEqual(machine.registers[:5], [(1, 1), None, None, (0, 1), (0, 2)])
        self.assertEqual(do(machine, clear(4), sweep(), heap(), value([3])), [[0], [2, 0], [1, 1, 1, 0, 0], [0, 1, 1]])

    def test_a_structure_is_kept_whole_by_its_place_alone(self):
        calls = [new(9), con(0, 1), struct(1, 5, [0, 0]), struct(2, 6, [0, 1]), arg(2, 1, 3), clear(1), clear(2),
                 clear(9)]
        machine = self.swept(calls, [3, 0], [4, 4, 5, 1, 1, 1, 1, 2, 0, 0, 0])
        self.assertEqual(do(machine, arg(3, 1, 4), value([3, 4])), [[1], [0, 3, 5, 1, 1, 1, 1, 1, 1]])

    def test_numbers_of_constants_and_heads_are_no_places(self):
        calls = [new(0), con(1, 1), struct(2, 1, [1]), clear(0)]
        self.swept(calls, [1, 0], [2, 3, 1, 1, 1, 0, 0])


class BehindAChoice(Swept):
    def test_seen_there_alone(self):
        machine = self.swept([new(0), choice(), clear(0)], [0, 0], [1, 0, 0, 0, 1, 1, 0])
        self.assertEqual(do(machine, back(), value([0]), cut(0), clear(0), sweep(), heap()),
                         [[1], [0, 0, 0], [0], [0], [1, 0], [0, 0, 0]])

    def test_a_structure_seen_there_alone(self):
        calls = [new(9), con(0, 1), new(1), struct(2, 5, [0, 1]), clear(1), clear(9), choice(), con(2, 8)]
        machine = self.swept(calls, [1, 0], [4, 0, 0, 4, 5, 1, 1, 0, 0, 0, 1, 4, 0])
        self.assertEqual(do(machine, back(), value([2])), [[1], [0, 3, 5, 1, 1, 0, 0]])

    def test_its_registers_move(self):
        machine = self.swept([new(0), new(1), clear(0), choice(), clear(1)], [1, 0], [1, 0, 0, 0, 1, 1, 0])
        self.assertEqual(do(machine, back(), value([1])), [[1], [0, 0, 0]])
        self.assertEqual(machine.registers[:2], [None, (0, 0)])

    def test_what_was_made_since_and_is_not_seen(self):
        self.swept([new(0), choice(), new(1), clear(1)], [1, 0], [1, 0, 0, 0, 1, 1, 0])

    def test_its_length_of_the_heap(self):
        # Below it 1 of 2 is kept, above it 1 of 2.
        self.swept([new(0), new(1), clear(0), choice(), new(2), new(3), clear(2)], [2, 0],
                   [2, 0, 0, 0, 1, 0, 1, 1, 0])

    def test_seen_behind_a_choice_that_was_cut(self):
        self.swept([new(0), choice(), choice(), clear(0), cut(1)], [0, 0], [1, 0, 0, 0, 1, 1, 0])
        self.swept([choice(), new(0), choice(), clear(0), cut(1)], [1, 0], [0, 0, 1, 0, 0])
        self.swept([new(0), choice(), clear(0), cut(0)], [1, 0], [0, 0, 0])

    def test_20_choices_with_a_variable_each(self):
        calls = [call for k in range(20) for call in (new(k % 16), choice())]
        lengths = [number for k in range(1, 21) for number in (k, 0)]
        free = [number for k in range(20) for number in (0, k)]
        machine = self.swept(calls + [clear(k) for k in range(16)], [0, 0], [20] + free + [0, 20] + lengths)
        self.assertEqual(do(machine, back(), look(), cut(19), back(), sweep(), look()),
                         [[1], [20, 0, 20], [19], [1], [0, 0], [19, 0, 19]])


class OnTheTrail(Swept):
    def test_seen_bound_and_free(self):
        machine = self.swept([new(0), con(1, 7), choice(), same(0, 1)], [0, 0], [1, 1, 7, 1, 0, 1, 1, 0])
        self.assertEqual(do(machine, value([0]), back(), value([0])), [[0, 1, 7], [1], [0, 0, 0]])

    def test_seen_bound_behind_a_younger_choice_alone(self):
        calls = [new(0), con(1, 7), choice(), same(0, 1), choice(), clear(0)]
        machine = self.swept(calls, [0, 0], [1, 1, 7, 1, 0, 2, 1, 0, 1, 1])
        self.assertEqual(do(machine, back(), value([0]), cut(1), back(), value([0])),
                         [[1], [0, 1, 7], [1], [1], [0, 0, 0]])

    def test_seen_free_alone(self):
        machine = self.swept([new(0), con(1, 7), choice(), same(0, 1), clear(0)], [0, 1], [1, 0, 0, 0, 1, 1, 0])
        self.assertEqual(do(machine, back(), value([0])), [[1], [0, 0, 0]])

    def test_what_it_was_bound_to_goes_with_it(self):
        calls = [new(0), choice(), con(1, 7), struct(2, 5, [1]), same(0, 2), clear(2), sweep()]
        machine = self.swept(calls, [0, 0], [3, 2, 1, 3, 5, 1, 7, 1, 0, 1, 1, 0])
        self.assertEqual(do(machine, clear(0), sweep(), heap()), [[0], [2, 1], [1, 0, 0, 0, 1, 1, 0]])
        self.assertEqual(do(machine, back(), value([0])), [[1], [0, 0, 0]])

    def test_two_that_are_bound_to_one_another_and_seen_free_alone(self):
        machine = self.swept([new(0), new(1), choice(), same(0, 1), clear(0), clear(1)], [0, 1],
                             [2, 0, 0, 0, 1, 0, 1, 2, 0])
        self.assertEqual(do(machine, back(), value([0, 1])), [[1], [0, 0, 0, 0, 1]])

    def test_one_of_two_seen_bound(self):
        # Place 1 is bound now and free behind the choice; place 0 is seen through it now, and free in both.
        self.swept([new(0), new(1), choice(), same(0, 1), clear(0)], [0, 0], [2, 0, 0, 0, 0, 1, 1, 1, 2, 0])

    def test_seen_bound_alone_with_a_choice_that_never_had_it(self):
        calls = [new(0), con(3, 7), choice(), new(1), choice(), same(1, 3), cut(1)]
        machine = self.swept(calls, [0, 1], [2, 0, 0, 1, 7, 0, 1, 1, 0])
        self.assertEqual(do(machine, value([1]), back(), look()), [[0, 1, 7], [1], [1, 0, 1]])

    def test_seen_bound_alone_with_no_choice_left(self):
        machine = self.swept([new(0), con(1, 7), choice(), same(0, 1), cut(0)], [0, 1], [1, 1, 7, 0, 0])
        self.assertEqual(do(machine, value([0])), [[0, 1, 7]])

    def test_seen_bound_behind_a_choice_and_free_nowhere(self):
        calls = [con(1, 7), choice(), new(0), choice(), same(0, 1), cut(1), choice(), clear(0)]
        machine = self.swept(calls, [0, 1], [1, 1, 7, 0, 2, 0, 0, 1, 0])
        self.assertEqual(do(machine, back(), value([0])), [[1], [0, 1, 7]])

    def test_seen_in_no_view(self):
        self.swept([con(1, 7), choice(), new(0), choice(), same(0, 1), cut(1), clear(0)], [1, 1], [0, 0, 1, 0, 0])

    def test_all_four_at_one_time(self):
        # Places 0 and 1 are older than both choices, 2 and 3 only older than the one that is cut.
        calls = [con(9, 7), new(0), new(1), choice(), new(2), new(3), choice(), same(3, 9), same(1, 9), same(2, 9),
                 same(0, 9), cut(1), clear(1), clear(3)]
        machine = self.swept(calls, [1, 3], [3, 1, 7, 0, 1, 1, 7, 1, 0, 1, 2, 0])
        self.assertEqual(do(machine, value([0, 2]), back(), value([0, 1]), look()),
                         [[0, 1, 7, 1, 7], [1], [0, 0, 0, 0, 1], [2, 0, 1]])

    def test_places_move_and_keep_their_order(self):
        calls = [new(k) for k in range(4)] + [con(9, 7), clear(0), choice(), same(3, 9), same(1, 9), same(2, 9),
                                              clear(1)]
        machine = self.swept(calls, [1, 1], [3, 0, 0, 1, 7, 1, 7, 2, 2, 1, 1, 3, 0])
        self.assertEqual(do(machine, back(), value([1, 2, 3])), [[1], [0, 0, 0, 0, 1, 0, 2]])


class SeveralChoices(Swept):
    # The first has a length of 2, the second of 4 with 1 on the trail, the third of 6 with 2.
    CALLS = [con(9, 7), new(0), new(1), clear(0), choice(), same(1, 9), new(2), new(3), clear(2), choice(), new(4),
             new(5), same(3, 9), choice(), clear(3), clear(4), clear(5)]

    def test_lengths_of_each(self):
        self.swept(self.CALLS, [2, 0], [4, 1, 7, 1, 7, 0, 2, 0, 3, 2, 0, 1, 3, 1, 0, 2, 1, 4, 2])

    def test_back_to_each_after_the_sweep(self):
        machine = machine_after(*self.CALLS, sweep())
        self.assertEqual(do(machine, back(), value([1, 3, 4, 5]), cut(2), back(), value([1, 3]), value([4])),
                         [[1], [0, 1, 7, 1, 7, 0, 0, 0, 1], [2], [1], [0, 1, 7, 0, 0], [-4]])
        self.assertEqual(do(machine, cut(1), back(), value([1]), value([3]), heap()),
                         [[1], [1], [0, 0, 0], [-4], [1, 0, 0, 0, 1, 1, 0]])

    def test_sweeps_between_the_backs(self):
        machine = machine_after(*self.CALLS, sweep())
        self.assertEqual(do(machine, back(), sweep(), cut(2), sweep(), back(), sweep(), look()),
                         [[1], [0, 0], [2], [0, 0], [1], [0, 0], [2, 1, 2]])
        self.assertEqual(do(machine, clear(1), sweep(), clear(3), sweep(), cut(1), sweep(), heap()),
                         [[0], [0, 0], [0], [0, 0], [1], [1, 1], [1, 0, 0, 0, 1, 1, 0]])

    def test_cut_ahead_of_the_sweep(self):
        self.swept(self.CALLS + [cut(2)], [4, 1], [2, 1, 7, 0, 1, 1, 0, 2, 1, 0, 2, 1])
        self.swept(self.CALLS + [cut(1)], [5, 1], [1, 1, 7, 1, 0, 1, 1, 0])
        self.swept(self.CALLS + [cut(0)], [5, 2], [1, 1, 7, 0, 0])

    def test_cut_between_two_sweeps(self):
        self.swept(self.CALLS + [sweep(), cut(2)], [2, 1], [2, 1, 7, 0, 1, 1, 0, 2, 1, 0, 2, 1])
        self.swept(self.CALLS + [sweep(), cut(1)], [3, 1], [1, 1, 7, 1, 0, 1, 1, 0])
        self.swept(self.CALLS + [sweep(), cut(2), sweep(), cut(0)], [1, 1], [1, 1, 7, 0, 0])

    def test_two_sweeps_one_behind_the_other(self):
        for left in range(4):
            machine = machine_after(*self.CALLS, cut(left), sweep())
            before = state(machine)
            self.assertEqual(do(machine, sweep(), sweep()), [[0, 0], [0, 0]])
            self.assertEqual(state(machine), before)

    def test_one_place_leads_elsewhere_in_each_view(self):
        # x is free behind the first choice, f(1) behind the second and now; what it leads to is kept for these.
        calls = [new(0), choice(), con(1, 1), struct(2, 5, [1]), same(0, 2), clear(2), choice(), clear(0)]
        machine = self.swept(calls, [0, 0], [3, 2, 1, 3, 5, 1, 1, 1, 0, 2, 1, 0, 3, 1])
        self.assertEqual(do(machine, back(), value([0]), clear(0), cut(1), sweep(), heap(), back(), value([0])),
                         [[1], [0, 2, 5, 1, 1], [0], [1], [2, 1], [1, 0, 0, 0, 1, 1, 0], [1], [0, 0, 0]])


class GoneOnWith(Swept):
    def test_new_cells_come_to_the_new_end(self):
        machine = machine_after(new(0), new(1), clear(0), sweep(), new(0), struct(2, 5, [0, 1]))
        self.assertEqual(machine.heap, [(0, 0), (0, 1), (4, 5), (0, 1), (0, 0)])

    def test_the_greater_place_is_bound(self):
        self.assertEqual(last_told_each(new(9), new(0), new(1), clear(9), sweep(), same(0, 1), heap()),
                         [2, 0, 0, 0, 0, 0, 0])

    def test_the_trail_goes_by_the_new_length(self):
        built = [new(0), new(1), clear(0), con(3, 7), choice(), sweep(), new(2)]
        self.assertEqual(told_each(*built, same(2, 3), heap(), same(1, 3), heap())[-3:],
                         [[2, 0, 0, 1, 7, 0, 1, 1, 0], [1], [2, 1, 7, 1, 7, 1, 0, 1, 1, 0]])

    def test_back_cuts_to_the_new_length(self):
        built = [new(0), new(1), clear(0), con(3, 7), choice(), sweep(), new(2), same(1, 3), back(), heap(), back(),
                 value([1])]
        self.assertEqual(told_each(*built)[-4:], [[1], [1, 0, 0, 0, 1, 1, 0], [1], [0, 0, 0]])

    def test_bound_again_after_it_was_made_free(self):
        built = [new(0), con(1, 7), con(2, 8), choice(), same(0, 1), clear(0), sweep(), back(), same(0, 2), value([0]),
                 heap(), back(), value([0])]
        self.assertEqual(told_each(*built)[-7:],
                         [[0, 1], [1], [1], [0, 1, 8], [1, 1, 8, 1, 0, 1, 1, 0], [1], [0, 0, 0]])

    def test_a_choice_made_after_the_sweep(self):
        built = [new(9), new(0), con(1, 7), clear(9), choice(), sweep(), same(0, 1), choice(), new(2), back(), heap()]
        self.assertEqual(last_told_each(*built), [1, 1, 7, 1, 0, 2, 1, 0, 1, 1])

    def test_no_register_gains_or_loses_anything(self):
        machine = machine_after(new(0), con(1, 7), struct(2, 5, [0]), copy(2, 15), clear(2), choice(), clear(15), sweep())
        self.assertEqual([cell is None for cell in machine.registers], [False, False] + [True] * 14)
        self.assertEqual([cell is None for cell in machine.choices[0].registers], [False, False] + [True] * 13 + [False])


class DeepAndShared(Swept):
    def test_deep_structures(self):
        with few_nested_calls(40):
            self.assertEqual(told_each(new(9), con(0, 1), *[struct(0, 5, [0])] * 93, clear(9), sweep(), look(),
                                       sweep())[-3:], [[1, 0], [186, 0, 0], [0, 0]])

    def test_deep_behind_a_choice(self):
        with few_nested_calls(40):
            self.assertEqual(told_each(con(0, 1), *[struct(0, 5, [0])] * 90, choice(), clear(0), sweep(), cut(0),
                                       sweep(), look())[-4:], [[0, 0], [0], [180, 0], [0, 0, 0]])

    def test_long_ways_through_places(self):
        steps = [step for k in range(45) for step in (struct(0, 5, [0]), arg(0, 0, 0))]
        with few_nested_calls(40):
            self.assertEqual(told_each(con(0, 1), *steps, sweep(), look(), value([0]))[-3:],
                             [[45, 0], [45, 0, 0], [0, 1, 1]])

    def test_shared_parts(self):
        tower = [new(0)] + [struct(0, 5, [0] * 4)] * 50
        with within(20):
            self.assertEqual(told_each(*tower, *[choice()] * 20, sweep(), look(), clear(0), cut(0), sweep())[-5:],
                             [[0, 0], [251, 0, 20], [0], [0], [251, 0]])


if __name__ == "__main__":
    unittest.main()

"""Point 4: choice, back, cut."""

import unittest

from tests.helper import (arg, back, choice, clear, con, copy, cut, do, heap, last_told_each, look, machine_after, new,
                          same, state, struct, told, told_each, value)


class MakeChoice(unittest.TestCase):
    def test_answers_how_many_there_are_then(self):
        self.assertEqual(told(*[choice()] * 20), list(range(1, 21)))

    def test_refused_with_20(self):
        self.assertEqual(told(*[choice()] * 23)[18:], [19, 20, -8, -8, -8])

    def test_room_again_behind_a_cut(self):
        self.assertEqual(told(*[choice()] * 20, choice(), cut(19), choice(), choice())[20:], [-8, 19, 20, -8])

    def test_back_makes_no_room(self):
        self.assertEqual(told(*[choice()] * 20, back(), choice())[20:], [1, -8])

    def test_all_is_as_it_was_when_refused(self):
        machine = machine_after(new(0), con(1, 4), *[choice()] * 20, same(0, 1), new(2))
        before = state(machine)
        self.assertEqual(do(machine, choice()), [[-8]])
        self.assertEqual(state(machine), before)

    def test_it_has_the_registers_and_both_lengths(self):
        machine = machine_after(new(0), new(1), con(2, 7), choice(), same(0, 2), new(3), clear(1), choice())
        self.assertEqual(state(machine)[3], [([(0, 0), (0, 1), (1, 7)] + [None] * 13, 2, 0),
                                             ([(0, 0), None, (1, 7), (0, 2)] + [None] * 12, 3, 1)])

    def test_nothing_else_is_done(self):
        machine = machine_after(new(0), con(1, 7), struct(2, 3, [0, 1]))
        before = state(machine)[:3]
        do(machine, choice())
        self.assertEqual(state(machine)[:3], before)


class Back(unittest.TestCase):
    def test_without_a_choice(self):
        self.assertEqual(told(back()), [0])
        machine = machine_after(new(0), con(1, 7), same(0, 1), struct(2, 3, [0]))
        before = state(machine)
        self.assertEqual(do(machine, back(), back()), [[0], [0]])
        self.assertEqual(state(machine), before)

    def test_behind_a_cut_to_none(self):
        self.assertEqual(told_each(new(0), con(1, 7), choice(), same(0, 1), cut(0), back(), value([0]))[4:],
                         [[0], [0], [0, 1, 7]])

    def test_all_is_as_it_was(self):
        machine = machine_after(new(0), new(1), con(2, 7), struct(3, 5, [0, 2]), same(0, 1), choice())
        before = state(machine)
        do(machine, same(1, 2), new(4), struct(5, 6, [4, 3]), clear(3), copy(2, 0), con(2, 8), arg(5, 1, 6))
        self.assertNotEqual(state(machine), before)
        self.assertEqual(do(machine, back()), [[1]])
        self.assertEqual(state(machine), before)

    def test_registers(self):
        self.assertEqual(told_each(con(0, 1), con(1, 2), choice(), clear(0), con(1, 3), con(2, 4), back(),
                                   value([0, 1]), value([2]))[-3:], [[1], [0, 1, 1, 1, 2], [-4]])

    def test_what_was_bound_below_the_heap_length(self):
        machine = machine_after(new(0), new(1), con(2, 7), choice(), same(1, 2), same(0, 2))
        self.assertEqual(machine.trail, [1, 0])
        self.assertEqual(do(machine, value([0, 1]), back(), value([0, 1]), look()),
                         [[0, 1, 7, 1, 7], [1], [0, 0, 0, 0, 1], [2, 0, 1]])
        self.assertEqual(machine.heap, [(0, 0), (0, 1)])

    def test_what_was_bound_above_the_heap_length(self):
        machine = machine_after(new(0), con(2, 7), choice(), new(1), same(1, 2))
        self.assertEqual(do(machine, look(), back(), look(), value([0]), value([1])),
                         [[2, 0, 1], [1], [1, 0, 1], [0, 0, 0], [-4]])

    def test_below_and_above_at_one_time(self):
        machine = machine_after(new(0), choice(), new(1), con(2, 7))
        do(machine, struct(3, 5, [0, 1]), struct(4, 5, [2, 2]), same(3, 4))
        self.assertEqual((machine.heap[:2], machine.trail), ([(1, 7), (1, 7)], [0]))
        do(machine, back())
        self.assertEqual((machine.heap, machine.trail), ([(0, 0)], []))

    def test_two_variables_across_the_heap_length(self):
        # The younger one is bound to the older one, so nothing is to be undone.
        machine = machine_after(new(0), choice(), new(1), same(0, 1))
        self.assertEqual(machine.trail, [])
        self.assertEqual(do(machine, back(), value([0])), [[1], [0, 0, 0]])

    def test_what_was_bound_ahead_of_the_choice_stays_bound(self):
        self.assertEqual(told_each(new(0), con(1, 7), same(0, 1), choice(), back(), value([0]))[-2:],
                         [[1], [0, 1, 7]])

    def test_what_was_bound_under_an_older_choice_stays_bound(self):
        machine = machine_after(new(0), new(1), con(2, 7), choice(), same(0, 2), choice(), same(1, 2))
        self.assertEqual(do(machine, back(), value([0, 1]), look()), [[1], [0, 1, 7, 0, 0], [2, 1, 2]])
        self.assertEqual(do(machine, cut(1), back(), value([0, 1]), look()), [[1], [1], [0, 0, 0, 0, 1], [2, 0, 1]])

    def test_several_times_to_the_same_choice(self):
        machine = machine_after(new(0), con(1, 1), con(2, 2), struct(3, 5, [0]), choice())
        before = state(machine)
        for calls in ([same(0, 1)], [same(0, 2), con(1, 9), new(4)], [clear(0), clear(1), clear(2)], [],
                      [struct(1, 6, [2, 2]), same(0, 1), copy(1, 3)], [new(5), same(5, 0), same(5, 1)]):
            self.assertNotIn([-4], do(machine, *calls))
            self.assertEqual(do(machine, back()), [[1]])
            self.assertEqual(state(machine), before)

    def test_by_answers_several_times(self):
        tried = [call for k in (1, 2, 1) for call in (same(0, k), value([0, 3]), back(), value([0, 3]))]
        free = [0, 0, 0, 2, 5, 0, 0]
        self.assertEqual(told_each(new(0), con(1, 1), con(2, 2), struct(3, 5, [0]), choice(), *tried)[5:],
                         [[1], [0, 1, 1, 2, 5, 1, 1], [1], free, [1], [0, 1, 2, 2, 5, 1, 2], [1], free,
                          [1], [0, 1, 1, 2, 5, 1, 1], [1], free])

    def test_to_the_topmost_choice(self):
        machine = machine_after(con(0, 1), choice(), con(0, 2), choice(), con(0, 3), choice(), con(0, 4))
        self.assertEqual(do(machine, back(), value([0]), cut(2), value([0]), back(), value([0]), cut(1), back(),
                            value([0])),
                         [[1], [0, 1, 3], [2], [0, 1, 3], [1], [0, 1, 2], [1], [1], [0, 1, 1]])


class BackAfterCut(unittest.TestCase):
    def test_bound_under_the_choice_that_is_gone(self):
        machine = machine_after(new(0), con(2, 7), choice(), new(1), choice(), same(1, 2), same(0, 2))
        self.assertEqual(machine.trail, [1, 0])
        self.assertEqual(do(machine, cut(1), value([0, 1]), look()), [[1], [0, 1, 7, 1, 7], [2, 2, 1]])
        # Place 1 is on the trail, though the choice that is left never had it.
        self.assertEqual(do(machine, back(), value([0]), value([1]), look()), [[1], [0, 0, 0], [-4], [1, 0, 1]])
        self.assertEqual(machine.heap, [(0, 0)])

    def test_the_trail_goes_by_the_choice_that_is_topmost_then(self):
        machine = machine_after(new(0), con(3, 7), choice(), new(1), choice(), new(2), cut(1))
        do(machine, same(2, 3), same(1, 3))
        self.assertEqual(machine.trail, [])
        do(machine, same(0, 3))
        self.assertEqual(machine.trail, [0])
        self.assertEqual(do(machine, back(), value([0]), look()), [[1], [0, 0, 0], [1, 0, 1]])

    def test_a_new_choice_on_a_trail_that_was_left(self):
        machine = machine_after(new(0), new(1), con(2, 7), choice(), same(0, 2), cut(0), choice(), same(1, 2))
        self.assertEqual(do(machine, heap()), [[2, 1, 7, 1, 7, 2, 0, 1, 1, 2, 1]])
        self.assertEqual(do(machine, back(), value([0, 1]), look()), [[1], [0, 1, 7, 0, 0], [2, 1, 1]])


class Cut(unittest.TestCase):
    def built(self):
        return machine_after(new(0), choice(), con(1, 7), same(0, 1), choice(), new(2), choice(), new(3), choice())

    def test_k_below_at_and_above(self):
        for k, left in ((0, 0), (1, 1), (2, 2), (3, 3), (4, 4), (5, 4), (20, 4), (21, 4), (1000, 4)):
            machine = self.built()
            before = state(machine)
            self.assertEqual(do(machine, cut(k)), [[left]])
            self.assertEqual(state(machine), (*before[:3], before[3][:left]))

    def test_without_a_choice(self):
        for k in (0, 1, 1000):
            self.assertEqual(told(cut(k)), [0])

    def test_one_cut_behind_another(self):
        self.assertEqual(told(*[choice()] * 5, cut(3), cut(4), cut(3), cut(1), choice(), cut(0), cut(0), choice())[5:],
                         [3, 3, 3, 1, 2, 0, 0, 1])

    def test_k_is_no_register(self):
        self.assertEqual(last_told_each(cut(16)), [0])


if __name__ == "__main__":
    unittest.main()

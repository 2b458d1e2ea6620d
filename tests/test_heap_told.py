"""What look and heap tell."""

import unittest

from tests.helper import (back, choice, clear, con, cut, do, heap, last_told_each, look, machine_after, new, same, state,
                          struct, told_each)


class Look(unittest.TestCase):
    def test_at_the_beginning(self):
        self.assertEqual(told_each(look()), [[0, 0, 0]])

    def test_each_of_the_three(self):
        calls = [new(0), new(1), con(2, 7), choice(), choice(), same(0, 2), struct(3, 5, [0, 1]), choice()]
        told = [told_each(*calls[:k], look())[-1] for k in range(1, len(calls) + 1)]
        self.assertEqual(told, [[1, 0, 0], [2, 0, 0], [2, 0, 0], [2, 0, 1], [2, 0, 2], [2, 1, 2], [5, 1, 2], [5, 1, 3]])

    def test_behind_back_and_cut(self):
        built = [new(0), con(1, 7), choice(), same(0, 1), new(2), choice()]
        self.assertEqual(told_each(*built, look(), cut(1), look(), back(), look(), cut(0), look())[6::2],
                         [[2, 1, 2], [2, 1, 1], [1, 0, 1], [1, 0, 0]])

    def test_what_is_not_seen_counts_till_it_is_swept(self):
        self.assertEqual(last_told_each(new(0), clear(0), look()), [1, 0, 0])


class Heap(unittest.TestCase):
    def test_at_the_beginning(self):
        self.assertEqual(told_each(heap()), [[0, 0, 0]])

    def test_each_sort_of_cell(self):
        # A free variable, one bound to it, one bound to a constant, one bound to a structure, heads, arguments.
        calls = [new(0), new(1), new(2), new(3), con(4, 7), same(0, 1), same(2, 4), struct(5, 999, [4, 1]),
                 same(3, 5), struct(6, 0, [5])]
        self.assertEqual(last_told_each(*calls, heap()),
                         [9, 0, 0, 0, 0, 1, 7, 2, 4, 4, 999, 1, 7, 0, 1, 3, 0, 2, 4, 0, 0])

    def test_heads_of_1_to_4_arguments(self):
        for length in range(1, 5):
            self.assertEqual(last_told_each(con(0, 3), struct(1, 8, [0] * length), heap()),
                             [1 + length, 2 + length, 8] + [1, 3] * length + [0, 0])

    def test_trail_and_choices_the_oldest_first(self):
        calls = [new(0), new(1), new(2), con(3, 7), choice(), same(2, 3), new(4), choice(), same(0, 3), same(1, 3),
                 choice()]
        self.assertEqual(last_told_each(*calls, heap()),
                         [4, 1, 7, 1, 7, 1, 7, 0, 3, 3, 2, 0, 1, 3, 3, 0, 4, 1, 4, 3])

    def test_behind_back_and_cut(self):
        built = [new(0), con(1, 7), choice(), same(0, 1), new(2), choice(), new(3)]
        self.assertEqual(told_each(*built, heap(), back(), heap(), cut(1), heap(), back(), heap())[7::2],
                         [[3, 1, 7, 0, 1, 0, 2, 1, 0, 2, 1, 0, 2, 1], [2, 1, 7, 0, 1, 1, 0, 2, 1, 0, 2, 1],
                          [2, 1, 7, 0, 1, 1, 0, 1, 1, 0], [1, 0, 0, 0, 1, 1, 0]])

    def test_nothing_is_done(self):
        machine = machine_after(new(0), con(1, 7), choice(), same(0, 1), new(2), choice(), new(3))
        before = state(machine)
        do(machine, heap(), look(), heap())
        self.assertEqual(state(machine), before)


if __name__ == "__main__":
    unittest.main()

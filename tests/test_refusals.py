"""The refusals: -2, then -1, then -4, then what a single call has; and all is as it was then."""

import unittest

from tests.helper import (arg, back, choice, clear, con, copy, cut, do, heap, last_told, last_told_each, look,
                          machine_after, new, same, state, struct, sweep, value)

TOO_HIGH = (16, 17, 500, 999, 1000)
# Register 8 has a term of size 1365.
TOO_LARGE = [con(8, 1)] + [struct(8, 5, [8] * 4)] * 5


class NoSuchRegister(unittest.TestCase):
    def each_refused(self, make):
        for number in TOO_HIGH:
            with self.subTest(number=number):
                self.assertEqual(last_told(new(0), new(15), make(number)), -2)

    def test_15_is_one(self):
        filled = [new(0), new(15)]
        for call, answer in ((new(15), 0), (con(15, 3), 0), (struct(15, 3, [15, 0]), 0), (struct(0, 3, [15]), 0),
                             (copy(15, 0), 0), (copy(0, 15), 0), (clear(15), 0), (same(15, 0), 1), (same(0, 15), 1),
                             (arg(15, 0, 0), 0), (arg(0, 0, 15), 0)):
            with self.subTest(call=call):
                self.assertEqual(last_told(*filled, call), answer)

    def test_arg_to_15(self):
        self.assertEqual(last_told(new(0), struct(15, 1, [0]), arg(15, 0, 15)), 1)

    def test_new(self):
        self.each_refused(new)

    def test_con(self):
        self.each_refused(lambda number: con(number, 0))

    def test_str_r(self):
        self.each_refused(lambda number: struct(number, 0, [0]))

    def test_str_each_of_the_list(self):
        self.each_refused(lambda number: struct(0, 0, [number]))
        for at in range(4):
            listed = [0, 15, 0, 15]
            self.each_refused(lambda number: struct(0, 0, listed[:at] + [number] + listed[at + 1:]))

    def test_copy(self):
        self.each_refused(lambda number: copy(number, 0))
        self.each_refused(lambda number: copy(0, number))
        self.each_refused(lambda number: copy(number, number))

    def test_clear(self):
        self.each_refused(clear)

    def test_same(self):
        self.each_refused(lambda number: same(number, 0))
        self.each_refused(lambda number: same(0, number))
        self.each_refused(lambda number: same(number, number))

    def test_value_each_of_the_list(self):
        self.assertEqual(last_told_each(con(15, 4), value([15])), [0, 1, 4])
        self.each_refused(lambda number: value([number]))
        for length in (2, 16, 17, 30):
            for at in (0, 1, length - 1):
                listed = [0, 15] * (length // 2) + [0] * (length % 2)
                self.each_refused(lambda number: value(listed[:at] + [number] + listed[at + 1:]))

    def test_arg(self):
        self.each_refused(lambda number: arg(number, 0, 0))
        self.each_refused(lambda number: arg(0, 0, number))
        self.each_refused(lambda number: arg(number, 0, number))


class OutOfBounds(unittest.TestCase):
    def test_con_symbol(self):
        for symbol, answer in ((0, 0), (1, 0), (998, 0), (999, 0), (1000, -1)):
            self.assertEqual(last_told(con(0, symbol)), answer)

    def test_str_symbol(self):
        for symbol, answer in ((0, 0), (1, 0), (998, 0), (999, 0), (1000, -1)):
            self.assertEqual(last_told(new(0), struct(1, symbol, [0])), answer)

    def test_str_length_of_the_list(self):
        for length in range(31):
            with self.subTest(length=length):
                self.assertEqual(last_told(new(0), struct(1, 5, [0] * length)), 0 if 1 <= length <= 4 else -1)

    def test_value_length_of_the_list(self):
        for length in range(31):
            with self.subTest(length=length):
                self.assertEqual(last_told_each(new(0), value([0] * length)),
                                 [0] + [0, 0] * length if length <= 16 else [-1])

    def test_cut_has_any_k(self):
        for k in (0, 1, 4, 16, 20, 999, 1000):
            self.assertEqual(last_told(cut(k)), 0)

    def test_arg_has_any_i(self):
        for i in (0, 1, 4, 16, 999, 1000):
            self.assertEqual(last_told(con(0, 5), arg(0, i, 1)), 0)


class HasNothing(unittest.TestCase):
    def test_at_the_beginning_no_register_has_anything(self):
        for r in range(16):
            self.assertEqual(last_told(copy(r, 0)), -4)
            self.assertEqual(last_told(same(r, r)), -4)

    def test_str(self):
        self.assertEqual(last_told(struct(0, 5, [1])), -4)
        for length in range(1, 5):
            for at in range(length):
                listed = [0] * length
                listed[at] = 9
                self.assertEqual(last_told(new(0), struct(1, 5, listed)), -4)

    def test_str_r_itself(self):
        self.assertEqual(last_told(struct(0, 5, [0])), -4)
        self.assertEqual(last_told(new(1), struct(0, 5, [1])), 0)

    def test_copy(self):
        self.assertEqual(last_told(new(0), copy(1, 0)), -4)
        self.assertEqual(last_told(new(0), copy(0, 1)), 0)
        self.assertEqual(last_told(copy(3, 3)), -4)

    def test_same(self):
        self.assertEqual(last_told(new(0), same(0, 1)), -4)
        self.assertEqual(last_told(new(0), same(1, 0)), -4)
        self.assertEqual(last_told(same(1, 0)), -4)
        self.assertEqual(last_told(same(1, 1)), -4)

    def test_arg(self):
        self.assertEqual(last_told(new(0), arg(1, 0, 0)), -4)
        self.assertEqual(last_told(new(0), arg(1, 1000, 0)), -4)
        self.assertEqual(last_told(new(0), struct(0, 5, [0]), arg(0, 0, 1)), 1)

    def test_value(self):
        self.assertEqual(last_told(value([0])), -4)
        for length in (1, 2, 3, 16):
            for at in range(length):
                listed = [0] * length
                listed[at] = 9
                self.assertEqual(last_told(new(0), value(listed)), -4)

    def test_what_had_nothing_behind_a_choice(self):
        self.assertEqual(last_told(choice(), new(0), back(), value([0])), -4)
        self.assertEqual(last_told(choice(), new(0), back(), same(0, 0)), -4)

    def test_not_of_new_con_clear(self):
        self.assertEqual([last_told(new(0)), last_told(con(0, 0)), last_told(clear(0))], [0, 0, 0])

    def test_what_was_cleared(self):
        self.assertEqual(last_told(new(0), clear(0), same(0, 0)), -4)


class SeveralAtOnce(unittest.TestCase):
    def test_no_such_register_ahead_of_all(self):
        for call in (con(16, 1000), struct(16, 1000, [9]), struct(16, 1, []), struct(0, 1000, [16]),
                     struct(0, 1, [9, 16]), struct(0, 1, [16, 9]), struct(16, 1, [9]), struct(0, 1, [9] * 29 + [16]),
                     struct(0, 1, [16, 9, 9, 9, 9]), struct(16, 1000, [1000] * 30), copy(9, 16), copy(16, 9),
                     same(9, 16), same(16, 9), arg(9, 0, 16), arg(16, 0, 9), arg(9, 1000, 16), value([9, 16]),
                     value([16, 9]), value([9] * 16 + [16]), value([16] * 17), value([16] + [9] * 29),
                     value([8, 16]), value([16, 8])):
            with self.subTest(call=call):
                self.assertEqual(last_told(*TOO_LARGE, call), -2)

    def test_out_of_bounds_ahead_of_nothing(self):
        for call in (struct(0, 1000, [9]), struct(0, 1, []), struct(0, 1, [9] * 5), struct(0, 1000, [9] * 30),
                     struct(0, 1000, []), value([9] * 17), value([9] * 30), value([8] * 17), value([8] + [9] * 16)):
            with self.subTest(call=call):
                self.assertEqual(last_told(*TOO_LARGE, call), -1)

    def test_nothing_ahead_of_too_large(self):
        for call in (value([8, 9]), value([9, 8]), value([8] * 15 + [9])):
            with self.subTest(call=call):
                self.assertEqual(last_told(*TOO_LARGE, call), -4)
        self.assertEqual(last_told(*TOO_LARGE, value([8])), -5)

    def test_nothing_ahead_of_other_answers(self):
        self.assertEqual(last_told(con(0, 1), arg(9, 5, 0)), -4)
        self.assertEqual(last_told(con(0, 1), same(0, 9)), -4)


class AllIsAsItWas(unittest.TestCase):
    BUILT = TOO_LARGE + [new(0), con(1, 4), struct(2, 3, [0, 1]), new(5), choice(), same(5, 1), new(6)] + [
        choice()] * 19
    REFUSED = (new(16), con(16, 0), con(0, 1000), struct(16, 1, [0]), struct(0, 1, [16]), struct(0, 1000, [0]),
               struct(0, 1, []), struct(0, 1, [0] * 5), struct(0, 1, [1, 9]), struct(0, 1, [9, 1]), copy(16, 0),
               copy(0, 16), copy(9, 0), clear(16), same(0, 16), same(16, 0), same(0, 9), same(9, 0), arg(16, 0, 0),
               arg(2, 0, 16), arg(9, 0, 0), choice(), value([16]), value([0] * 17), value([0, 9]), value([0, 8]))

    def test_after_each_refusal(self):
        for call in self.REFUSED:
            with self.subTest(call=call):
                machine = machine_after(*self.BUILT)
                before = state(machine)
                answered = do(machine, call)[0]
                self.assertEqual(len(answered), 1)
                self.assertLess(answered[0], 0)
                self.assertEqual(state(machine), before)

    def test_other_calls_answer_the_same_behind_them(self):
        behind = [arg(2, 0, 3), same(3, 1), same(0, 1), struct(4, 3, [1, 0]), same(4, 2), same(0, 0), copy(9, 0),
                  value([2, 5]), heap(), back(), cut(1), look(), value([0, 5]), sweep(), back(), value([0, 5]), heap()]
        expected = do(machine_after(*self.BUILT), *behind)
        self.assertEqual(expected[:8], [[1], [1], [1], [0], [1], [1], [-4], [0, 3, 3, 1, 4, 1, 4, 1, 4]])
        self.assertEqual(expected[9:-1], [[1], [1], [31, 1, 1], [0, 0, 0, 1, 4], [0, 0], [1], [0, 0, 0, 0, 1]])
        for call in self.REFUSED:
            with self.subTest(call=call):
                machine = machine_after(*self.BUILT)
                do(machine, call)
                self.assertEqual(do(machine, *behind), expected)


if __name__ == "__main__":
    unittest.main()

"""What is done after a sweep is answered as if it hadn't been swept; sooner or later, once or often."""

import random
import unittest

from sweptheapdesk.machine import answers
from sweptheapdesk.state import Machine
from tests.helper import as_numbers, do, heap, line, some_line, split_answers, state, sweep

OF_THE_HEAP_ITSELF = ("look", "sweep", "heap")
SWEEP = ("sweep", ())


def drawn(source, length):
    return some_line(source, length, but=OF_THE_HEAP_ITSELF)


def with_sweeps(calls, before):
    """The calls with a sweep ahead of each whose index is in before."""
    return [call for at, one in enumerate(calls) for call in ([SWEEP, one] if at in before else [one])]


def told_but_of_sweeps(calls):
    given = split_answers(answers(as_numbers(calls)))
    return [answer for (name, _), answer in zip(calls, given) if name != "sweep"]


class AsIfNotSwept(unittest.TestCase):
    def alike(self, calls, *places):
        plain = told_but_of_sweeps(calls)
        for before in places:
            swept = with_sweeps(calls, before)
            self.assertLessEqual(len(swept), 100)
            self.assertEqual(told_but_of_sweeps(swept), plain, swept)
        return plain

    def test_a_sweep_ahead_of_each_call(self):
        source = random.Random(30)
        backs = 0
        for _ in range(400):
            calls = drawn(source, 50)
            plain = self.alike(calls, range(50), range(1, 50, 2), range(25, 50))
            backs += sum(name == "back" and answer == [1] for (name, _), answer in zip(calls, plain))
        self.assertGreater(backs, 400)

    def test_one_sweep_anywhere(self):
        source = random.Random(31)
        for _ in range(60):
            self.alike(drawn(source, 99), *[[at] for at in source.sample(range(20, 99), 6)])

    def test_some_sweeps_in_long_lines(self):
        source = random.Random(32)
        for _ in range(250):
            self.alike(drawn(source, 90), source.sample(range(90), 10), source.sample(range(50, 90), 10))


class ComesToTheSame(unittest.TestCase):
    def test_swept_before_or_not(self):
        source = random.Random(33)
        for _ in range(400):
            calls = drawn(source, 48)
            told = []
            for before in ([], range(48), source.sample(range(48), 5), [47]):
                numbers = as_numbers(with_sweeps(calls, before)) + line([sweep(), heap()])
                told.append(split_answers(answers(numbers))[-1])
            self.assertEqual(told, told[:1] * 4, calls)

    def test_a_second_sweep_takes_nothing_away(self):
        source = random.Random(34)
        for _ in range(400):
            machine = Machine()
            do(machine, as_numbers(some_line(source, 60)), sweep())
            once = state(machine)
            self.assertEqual(do(machine, sweep(), sweep()), [[0, 0], [0, 0]])
            self.assertEqual(state(machine), once)


if __name__ == "__main__":
    unittest.main()

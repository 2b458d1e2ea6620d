"""What the tests share: calls as lists of numbers, their answers, and looks into a machine."""

import contextlib
import inspect
import signal
import sys

from sweptheapdesk.machine import answer, answers, split_calls
from sweptheapdesk.state import Machine


def new(r):
    return [0, r]


def con(r, symbol):
    return [1, r, symbol]


def struct(r, symbol, registers):
    return [2, r, symbol, len(registers)] + list(registers)


def copy(r, q):
    return [3, r, q]


def clear(r):
    return [4, r]


def same(r, q):
    return [5, r, q]


def arg(r, i, q):
    return [6, r, i, q]


def line(calls):
    return [number for call in calls for number in call]


def told(*calls):
    """The answers of calls that each answer one number."""
    given = answers(line(calls))
    if len(given) != 2 * len(calls) or any(count != 1 for count in given[::2]):
        raise AssertionError(f"not one number for each call: {given}")
    return given[1::2]


def last_told(*calls):
    return told(*calls)[-1]


def do(machine, *calls):
    """The calls' answers, one list for each, of a machine that is there already."""
    return [answer(machine, *part) for part in split_calls(line(calls))]


def machine_after(*calls):
    machine = Machine()
    do(machine, *calls)
    return machine


def state(machine):
    """All that a machine has, as a copy."""
    choices = [(list(c.registers), c.heap_length, c.trail_length) for c in machine.choices]
    return list(machine.heap), list(machine.registers), list(machine.trail), choices


@contextlib.contextmanager
def within(seconds):
    """Fails what takes longer, instead of waiting for it without end."""
    def too_long(number, frame):
        raise AssertionError(f"took longer than {seconds} seconds")
    before = signal.signal(signal.SIGALRM, too_long)
    signal.alarm(seconds)
    try:
        yield
    finally:
        signal.alarm(0)
        signal.signal(signal.SIGALRM, before)


@contextlib.contextmanager
def few_nested_calls(most):
    """Fails what is gone through by calls within one another instead of by loops."""
    before = sys.getrecursionlimit()
    sys.setrecursionlimit(len(inspect.stack(0)) + most)
    try:
        yield
    finally:
        sys.setrecursionlimit(before)

"""What the tests share: calls as lists of numbers, their answers, and looks into a machine."""

import contextlib
import inspect
import signal
import sys

from sweptheapdesk.machine import answer, answers, split_calls
from sweptheapdesk.state import Machine


def new(r):
    return [0, r]


def con(r, symbol):
    return [1, r, symbol]


def struct(r, symbol, registers):
    return [2, r, symbol, len(registers)] + list(registers)


def copy(r, q):
    return [3, r, q]


def clear(r):
    return [4, r]


def same(r, q):
    return [5, r, q]


def arg(r, i, q):
    return [6, r, i, q]


def choice():
    return [7]


def back():
    return [8]


def cut(k):
    return [9, k]


def value(registers):
    return [10, len(registers)] + list(registers)


def look():
    return [11]


def sweep():
    return [12]


def heap():
    return [13]


def line(calls):
    return [number for call in calls for number in call]


def split_answers(given):
    """What answers() gives back, as one list for each call."""
    lists = []
    at = 0
    while at < len(given):
        lists.append(given[at + 1:at + 1 + given[at]])
        at += 1 + given[at]
    if at != len(given):
        raise AssertionError(f"fewer numbers than counted: {given}")
    return lists


def told_each(*calls):
    """The answers, one list for each call."""
    lists = split_answers(answers(line(calls)))
    if len(lists) != len(calls):
        raise AssertionError(f"not one answer for each call: {lists}")
    return lists


def told(*calls):
    """The answers of calls that each answer one number."""
    lists = told_each(*calls)
    if any(len(numbers) != 1 for numbers in lists):
        raise AssertionError(f"not one number for each call: {lists}")
    return [numbers[0] for numbers in lists]


def last_told(*calls):
    return told(*calls)[-1]


def last_told_each(*calls):
    return told_each(*calls)[-1]


def do(machine, *calls):
    """The calls' answers, one list for each, of a machine that is there already."""
    return [answer(machine, *part) for part in split_calls(line(calls))]


def machine_after(*calls):
    machine = Machine()
    do(machine, *calls)
    return machine


def state(machine):
    """All that a machine has, as a copy."""
    choices = [(list(c.registers), c.heap_length, c.trail_length) for c in machine.choices]
    return list(machine.heap), list(machine.registers), list(machine.trail), choices


MAKERS = {"new": new, "con": con, "struct": struct, "copy": copy, "clear": clear, "same": same, "arg": arg,
          "choice": choice, "back": back, "cut": cut, "value": value, "look": look, "sweep": sweep, "heap": heap}

# How often each call is drawn, of all. Building comes first, as going back to a bare machine makes it bare again.
BUILDING = {"new": 8, "con": 2, "struct": 6, "copy": 1, "same": 1}
OFTEN = {"new": 8, "con": 3, "struct": 8, "copy": 4, "clear": 3, "same": 14, "arg": 6,
         "choice": 5, "back": 4, "cut": 2, "value": 4, "look": 1, "sweep": 4, "heap": 2}
MANY_CHOICES = {**OFTEN, "choice": 30, "cut": 1}
FEW_STRUCTURES = {**OFTEN, "new": 14, "struct": 3, "same": 20, "clear": 7, "sweep": 8}
MANY_CUTS = {**FEW_STRUCTURES, "choice": 14, "cut": 9, "back": 3}
LARGE_TERMS = {**OFTEN, "new": 2, "con": 1, "struct": 30, "clear": 1, "arg": 2, "choice": 3, "back": 1}


def some_call(source, often, width):
    """A call drawn at random, as its name and what it is handed; registers are mostly below width."""
    def some_register():
        return source.choice((0, 15, 16, 1000)) if source.random() < 0.03 else source.randrange(width)

    def some_symbol():
        return source.choice((0, 999, 1000, 1000)) if source.random() < 0.04 else source.randrange(2)

    def some_registers(usual, unusual):
        length = source.choice(unusual) if source.random() < 0.03 else source.choice(usual)
        return [some_register() for _ in range(length)]

    name = source.choices(list(often), list(often.values()))[0]
    if name in ("new", "clear"):
        return name, (some_register(),)
    if name == "con":
        return name, (some_register(), some_symbol())
    if name in ("copy", "same"):
        return name, (some_register(), some_register())
    if name == "arg":
        return name, (some_register(), source.randrange(4), some_register())
    if name == "struct":
        return name, (some_register(), some_symbol(), some_registers((1, 1, 2, 2, 3, 4), (0, 5, 30)))
    if name == "cut":
        return name, (source.choice((0, 1, 1, 2, 2, 3, 4, 5, 20, 1000)),)
    if name == "value":
        return name, (some_registers((1, 1, 2, 3), (0, 16, 17, 30)),)
    return name, ()


def some_line(source, length, but=()):
    """Calls drawn at random, all of one temper; those with a name in but are left out."""
    often = source.choice((OFTEN, OFTEN, MANY_CHOICES, FEW_STRUCTURES, MANY_CUTS, MANY_CUTS, LARGE_TERMS))
    often = {name: weight for name, weight in often.items() if name not in but}
    first, width = source.randrange(25), source.choice((2, 3, 4, 6))
    return [some_call(source, BUILDING if k < first else often, width) for k in range(length)]


def as_numbers(calls):
    return line(MAKERS[name](*given) for name, given in calls)


@contextlib.contextmanager
def within(seconds):
    """Fails what takes longer, instead of waiting for it without end."""
    def too_long(number, frame):
        raise AssertionError(f"took longer than {seconds} seconds")
    before = signal.signal(signal.SIGALRM, too_long)
    signal.alarm(seconds)
    try:
        yield
    finally:
        signal.alarm(0)
        signal.signal(signal.SIGALRM, before)


@contextlib.contextmanager
def few_nested_calls(most):
    """Fails what is gone through by calls within one another instead of by loops."""
    before = sys.getrecursionlimit()
    sys.setrecursionlimit(len(inspect.stack(0)) + most)
    try:
        yield
    finally:
        sys.setrecursionlimit(before)

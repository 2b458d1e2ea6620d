"""The calls about choices, whole terms and the whole heap: each gives back the list of numbers that it answers."""

from sweptheapdesk.refusals import NOT_REFUSED, TOO_LARGE, TOO_MANY_CHOICES, refusal
from sweptheapdesk.sweeping import sweep
from sweptheapdesk.terms import rows, term_parts

MOST_CHOICES = 20
MOST_TERMS = 16
MOST_SIZE = 500


def call_choice(machine):
    if len(machine.choices) >= MOST_CHOICES:
        return [TOO_MANY_CHOICES]
    machine.choices.append(machine.choice_of_now())
    return [len(machine.choices)]


def call_back(machine):
    if len(machine.choices) == 0:
        return [0]
    machine.back_to_topmost()
    return [1]


def call_cut(machine, k):
    machine.choices = machine.choices[:k]
    return [len(machine.choices)]


def call_value(machine, registers):
    refused = refusal(machine, registers, len(registers) > MOST_TERMS, registers)
    if refused != NOT_REFUSED:
        return [refused]
    parts = []
    for r in registers:
        of_one = term_parts(machine.heap, machine.registers[r], MOST_SIZE)
        if len(of_one) > MOST_SIZE:
            return [TOO_LARGE]
        parts.extend(of_one)
    return [0] + rows(machine.heap, parts)


def call_look(machine):
    return [len(machine.heap), len(machine.trail), len(machine.choices)]


def call_sweep(machine):
    cells = len(machine.heap)
    places = len(machine.trail)
    sweep(machine)
    return [cells - len(machine.heap), places - len(machine.trail)]


def call_heap(machine):
    told = [len(machine.heap)]
    for cell in machine.heap:
        told.extend([cell[0], cell[1]])
    told.append(len(machine.trail))
    told.extend(machine.trail)
    told.append(len(machine.choices))
    for choice in machine.choices:
        told.extend([choice.heap_length, choice.trail_length])
    return told

"""The calls about single registers: each gives back the list of numbers that it answers."""

from sweptheapdesk.cells import CONSTANT, PLACE, STRUCTURE, argument_count, looked_through
from sweptheapdesk.refusals import NOT_REFUSED, refusal
from sweptheapdesk.sameness import make_same

HIGHEST_SYMBOL = 999
MOST_ARGUMENTS = 4


def call_new(machine, r):
    refused = refusal(machine, [r], False, [])
    if refused != NOT_REFUSED:
        return [refused]
    machine.registers[r] = machine.add_variable()
    return [0]


def call_con(machine, r, symbol):
    refused = refusal(machine, [r], symbol > HIGHEST_SYMBOL, [])
    if refused != NOT_REFUSED:
        return [refused]
    machine.registers[r] = (CONSTANT, symbol)
    return [0]


def call_str(machine, r, symbol, registers):
    out_of_bounds = symbol > HIGHEST_SYMBOL or not 1 <= len(registers) <= MOST_ARGUMENTS
    refused = refusal(machine, [r] + registers, out_of_bounds, registers)
    if refused != NOT_REFUSED:
        return [refused]
    cells = [machine.registers[k] for k in registers]
    machine.registers[r] = machine.add_structure(symbol, cells)
    return [0]


def call_copy(machine, r, q):
    refused = refusal(machine, [r, q], False, [r])
    if refused != NOT_REFUSED:
        return [refused]
    machine.registers[q] = machine.registers[r]
    return [0]


def call_clear(machine, r):
    refused = refusal(machine, [r], False, [])
    if refused != NOT_REFUSED:
        return [refused]
    machine.registers[r] = None
    return [0]


def call_same(machine, r, q):
    refused = refusal(machine, [r, q], False, [r, q])
    if refused != NOT_REFUSED:
        return [refused]
    if make_same(machine, machine.registers[r], machine.registers[q]):
        return [1]
    return [0]


def call_arg(machine, r, i, q):
    refused = refusal(machine, [r, q], False, [r])
    if refused != NOT_REFUSED:
        return [refused]
    cell = looked_through(machine.heap, machine.registers[r])
    if cell[0] != STRUCTURE or i >= argument_count(machine.heap, cell[1]):
        return [0]
    machine.registers[q] = (PLACE, cell[1] + 1 + i)
    return [1]

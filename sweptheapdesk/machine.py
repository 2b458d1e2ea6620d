"""A line of calls about one machine, and its answers."""

from sweptheapdesk.single_calls import call_arg, call_clear, call_con, call_copy, call_new, call_same, call_str
from sweptheapdesk.state import Machine
from sweptheapdesk.whole_calls import call_back, call_choice, call_cut, call_heap, call_look, call_sweep, call_value

NEW = 0
CON = 1
STR = 2
COPY = 3
CLEAR = 4
SAME = 5
ARG = 6
CHOICE = 7
BACK = 8
CUT = 9
VALUE = 10
LOOK = 11
SWEEP = 12

# By the call's number: how many whole numbers it has, its row not among them.
WHOLE_NUMBERS = (1, 2, 2, 2, 1, 2, 3, 0, 0, 1, 0, 0, 0, 0)
CALLS_WITH_ROW = (STR, VALUE)


# Each call as a tuple: its number, the list of its whole numbers, its row (empty where it has none).
def split_calls(calls):
    parts = []
    at = 0
    while at < len(calls):
        number = calls[at]
        row_start = at + 1 + WHOLE_NUMBERS[number]
        numbers = calls[at + 1:row_start]
        row = []
        at = row_start
        if number in CALLS_WITH_ROW:
            at = row_start + 1 + calls[row_start]
            row = calls[row_start + 1:at]
        parts.append((number, numbers, row))
    return parts


def answer(machine, number, numbers, row):
    if number == NEW:
        return call_new(machine, numbers[0])
    if number == CON:
        return call_con(machine, numbers[0], numbers[1])
    if number == STR:
        return call_str(machine, numbers[0], numbers[1], row)
    if number == COPY:
        return call_copy(machine, numbers[0], numbers[1])
    if number == CLEAR:
        return call_clear(machine, numbers[0])
    if number == SAME:
        return call_same(machine, numbers[0], numbers[1])
    if number == ARG:
        return call_arg(machine, numbers[0], numbers[1], numbers[2])
    if number == CHOICE:
        return call_choice(machine)
    if number == BACK:
        return call_back(machine)
    if number == CUT:
        return call_cut(machine, numbers[0])
    if number == VALUE:
        return call_value(machine, row)
    if number == LOOK:
        return call_look(machine)
    if number == SWEEP:
        return call_sweep(machine)
    return call_heap(machine)


def answers(calls):
    machine = Machine()
    told = []
    for part in split_calls(calls):
        answered = answer(machine, part[0], part[1], part[2])
        told.append(len(answered))
        told.extend(answered)
    return told

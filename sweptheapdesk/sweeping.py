"""Sweeping: what is seen, now or behind some choice, is kept and moves together; the rest is taken away."""

from sweptheapdesk.cells import PLACE, STRUCTURE, places_led_to
from sweptheapdesk.state import Choice


# seen: a dict with the places that are seen in this view. The places that are below trail_length on the trail
# are bound in it, the others are free.
class View:
    def __init__(self, seen, trail_length):
        self.seen = seen
        self.trail_length = trail_length


def seen_places(heap, registers):
    seen = {}
    waiting = [cell for cell in registers if cell is not None]
    while len(waiting) > 0:
        cell = waiting.pop()
        for place in places_led_to(heap, cell):
            if place not in seen:
                seen[place] = True
                waiting.append(heap[place])
    return seen


# The view of now is that of a choice made now: to go back to it would change nothing.
def all_views(machine):
    views = []
    for choice in machine.choices + [machine.choice_of_now()]:
        seen = seen_places(machine.heap_behind(choice), choice.registers)
        views.append(View(seen, choice.trail_length))
    return views


def is_bound_in(view, at):
    return at < view.trail_length


def is_seen_bound(views, trail, at):
    return any([trail[at] in view.seen for view in views if is_bound_in(view, at)])


def is_seen_free(views, trail, at):
    return any([trail[at] in view.seen for view in views if not is_bound_in(view, at)])


# By each kept place, in order: the place to which it comes.
def places_to_come(views):
    kept = {}
    for view in views:
        kept.update(view.seen)
    come = {}
    for place in sorted(kept):
        come[place] = len(come)
    return come


def moved(cell, come):
    if cell is None or cell[0] not in (PLACE, STRUCTURE):
        return cell
    return (cell[0], come[cell[1]])


# staying: the old trail's indexes that stay.
def moved_choice(choice, come, staying):
    heap_length = len([place for place in come if place < choice.heap_length])
    trail_length = len([at for at in staying if at < choice.trail_length])
    return Choice([moved(cell, come) for cell in choice.registers], heap_length, trail_length)


# What nobody sees bound may lead to cells that are not kept, so it is made free ahead of the move.
def swept_heap(heap, unbound, come):
    left = list(heap)
    for place in unbound:
        left[place] = (PLACE, place)
    return [moved(left[place], come) for place in come]


def sweep(machine):
    views = all_views(machine)
    come = places_to_come(views)
    trail = machine.trail
    bound = [at for at in range(len(trail)) if is_seen_bound(views, trail, at)]
    unbound = [trail[at] for at in range(len(trail)) if at not in bound]
    staying = [at for at in bound if is_seen_free(views, trail, at)]
    machine.heap = swept_heap(machine.heap, unbound, come)
    machine.registers = [moved(cell, come) for cell in machine.registers]
    machine.choices = [moved_choice(choice, come, staying) for choice in machine.choices]
    machine.trail = [come[trail[at]] for at in staying]

"""The refusals: the numbers that they answer, and when those are due that several calls have."""

from sweptheapdesk.state import REGISTER_COUNT

NOT_REFUSED = 0
NO_SUCH_REGISTER = -2
OUT_OF_BOUNDS = -1
HAS_NOTHING = -4
TOO_LARGE = -5
TOO_MANY_CHOICES = -8


# named: all registers that a call is handed; out_of_bounds: whether anything else in it is;
# looked_at: the registers whose values it needs. The order of the three is promised.
def refusal(machine, named, out_of_bounds, looked_at):
    if any([r >= REGISTER_COUNT for r in named]):
        return NO_SUCH_REGISTER
    if out_of_bounds:
        return OUT_OF_BOUNDS
    if any([machine.registers[r] is None for r in looked_at]):
        return HAS_NOTHING
    return NOT_REFUSED

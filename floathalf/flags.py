"""The flags that an answer raises."""

from floathalf.formats import is_signaling

NX = 1
UF = 2
OF = 4
DZ = 8
NV = 16


def signaling_flags(form, operands):
    """NV if one of the operands is a signaling NaN."""
    for a in operands:
        if is_signaling(form, a):
            return NV
    return 0

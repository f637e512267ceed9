"""Loss rows: that we lose so much at least, or so much at most."""

from marksinturn.lossjudging import judged_losses
from marksinturn.lossvalues import need_priced_wishes


def loss_fault(question, prices, thing):
    """None for a loss paper, else the index of the first thing that is wrong, and why it is."""
    need_priced_wishes(question, prices)
    _, fault = judged_losses(question, prices, thing)
    return fault

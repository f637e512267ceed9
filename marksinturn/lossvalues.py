"""What is lost, as parts of a question's whole, below nought: so we are best off with the most, as with what is won."""

from marksinturn.numbersof import fraction_of, whole_of
from marksinturn.questions import need_question
from marksinturn.tables import fitting, full_pattern, levels_of, truths_of, yes_patterns
from marksinturn.trees import need_prices


def need_priced_wishes(question, prices):
    """Raise BadQuestion for no question, BadPrices for no list of a number for each wish."""
    need_question(question)
    need_prices(question, prices, 0)


def play_losses(question, prices):
    """For each index of a play what is lost in it."""
    length = len(question.names)
    patterns = yes_patterns(length)
    bound = full_pattern(length)
    for turn in question.guard_turns:
        bound &= ~fitting(patterns, turn)
    losses = [0] * (1 << length)
    for price, turn in zip(prices, question.wish_turns):
        fails = truths_of(bound & fitting(patterns, turn), length)
        losses = [loss + price if does_fail else loss for loss, does_fail in zip(losses, fails)]
    return losses


def loss_levels(question, prices, position, tables):
    """The parts, below nought, that all positions from one on are worth, by length, where tables are played."""
    whole = whole_of(question)
    return levels_of(question, position, tables, [-loss * whole for loss in play_losses(question, prices)])


def told_loss(question, part):
    """The loss that parts below nought are."""
    return fraction_of(-part, whole_of(question))

"""What is lost or won for certain, by a code of the truths that marks have."""


def is_lost_code(question, code):
    """Whether some wish has all its literals against and each guard one for."""
    if all([turn & ~code for turn in question.wish_turns]):
        return False
    return all([guard & code for guard in question.guard_codes])


def is_won_code(question, code):
    """Whether some guard has all its literals against, or each wish one for."""
    if not all([turn & ~code for turn in question.guard_turns]):
        return True
    return all([wish & code for wish in question.wish_codes])


def is_certain_code(question, kind, code):
    """Whether a code's literals are lost for certain, of the kind most, or won for certain, of least."""
    if kind == "most":
        return is_lost_code(question, code)
    return is_won_code(question, code)

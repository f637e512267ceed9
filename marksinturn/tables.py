"""All positions of one length at once, in order, and what is reckoned at them.

A position's index is the number that its truths write in twos, the first
mark's ahead; so indexes ascend as positions do, and the two behind one are
at twice its index and next to that. A pattern is an integer with a bit for
each index.
"""

from marksinturn.numbersof import better_of, whole_of


def index_of(position):
    """The index of a position among those of its length."""
    index = 0
    for truth in position:
        index = 2 * index + int(truth)
    return index


def position_at(length, index):
    """The position of a length that has an index."""
    return [index >> (length - 1 - place) & 1 == 1 for place in range(length)]


def yes_patterns(length):
    """For each place the pattern of the positions of a length with Yes there."""
    patterns = []
    for place in range(length):
        block = 1 << (length - 1 - place)
        pattern = ((1 << block) - 1) << block
        width = 2 * block
        while width < 1 << length:
            pattern |= pattern << width
            width *= 2
        patterns.append(pattern)
    return patterns


def full_pattern(length):
    """The pattern of all positions of a length."""
    return (1 << (1 << length)) - 1


def fitting(patterns, code):
    """The pattern of the positions at which all literals of a code are for."""
    full = full_pattern(len(patterns))
    found = full
    for place, pattern in enumerate(patterns):
        here = code >> (2 * place)
        if here & 1:
            found &= full ^ pattern
        if here & 2:
            found &= pattern
    return found


def truths_of(pattern, length):
    """For each index whether its bit is in the pattern."""
    text = f"{pattern:b}".zfill(1 << length)
    return [sign == "1" for sign in text[::-1]]


def won_plays(question):
    """For each index of a play whether it is won."""
    length = len(question.names)
    patterns = yes_patterns(length)
    full = full_pattern(length)
    kept = full
    for turn in question.wish_turns:
        kept &= full ^ fitting(patterns, turn)
    for turn in question.guard_turns:
        kept |= fitting(patterns, turn)
    return truths_of(kept, length)


def worth_levels(question, position, tables):
    """The parts that are worth what, at all positions from this one on, by length.

    Tables give, by place, what a policy sets at each index of its length;
    whose marks have none do what is best for them.
    """
    whole = whole_of(question)
    return levels_of(question, position, tables, [whole if won else 0 for won in won_plays(question)])


def levels_of(question, position, tables, parts):
    """The same, where each play is worth the parts that stand at its index."""
    start = len(position)
    index = index_of(position)
    span = len(question.names) - start
    level = parts[index << span:(index + 1) << span]
    levels = [level]
    while span > 0:
        span -= 1
        table = None
        if start + span in tables:
            table = tables[start + span][index << span:(index + 1) << span]
        level = level_ahead(question.hands[start + span], table, level)
        levels.append(level)
    return levels[::-1]


def level_ahead(hand, table, level):
    """The parts at the positions that are shorter by the one mark of a hand."""
    nos = level[0::2]
    yeses = level[1::2]
    if table is not None:
        return [yes if truth else no for no, yes, truth in zip(nos, yeses, table)]
    return [better_of(hand, no, yes) for no, yes in zip(nos, yeses)]


def marks_by(question, hand):
    """The places of a hand's marks."""
    return [place for place, by in enumerate(question.hands) if by == hand]


def followed(question, tables):
    """For each length the indexes of the positions that follow the tables, ascending."""
    level = [0]
    levels = [level]
    for place in range(len(question.names)):
        if place in tables:
            level = [2 * index + int(tables[place][index]) for index in level]
        else:
            level = [2 * index + side for index in level for side in (0, 1)]
        levels.append(level)
    return levels

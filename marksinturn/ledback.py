"""Policies of smaller questions led back, step by step, to the questions that these were made of."""

from marksinturn.freejudging import dropped_place
from marksinturn.functions import need_policy, need_side, policy_tables
from marksinturn.policies import bare_of_tables
from marksinturn.questions import need_question
from marksinturn.refusals import BadWay
from marksinturn.smallersteps import smaller, way_of
from marksinturn.stepping import ahead_of, has_mark, pure_truth, single_truth, truth_in, turned
from marksinturn.tables import fitting, marks_by, truths_of, yes_patterns


def led_back(question, steps, hand, policy):
    """The policy that comes of a policy behind some steps, led back over them from the last one."""
    need_question(question)
    way, fault = way_of(question, steps)
    if fault is not None:
        raise BadWay(fault)
    need_side(hand)
    need_policy(question, hand, policy)
    return led_over_way(question, way, hand, policy)


def led_over_way(question, way, hand, policy):
    """The same, of what is right."""
    tables = bare_tables(question, hand, policy_tables(question, hand, policy))
    for clauses, step in way[::-1]:
        place = place_of_step(clauses, step)
        if place is not None and question.hands[place] == hand:
            tables[place] = table_ahead(clauses, step, place, tables[place])
            tables = bare_tables(question, hand, tables)
    return bare_of_tables(question, hand, tables)


def bare_tables(question, hand, tables):
    """The tables that tell by others' marks alone, and wherever a position has the hand's otherwise, the same."""
    found = {}
    # For each position of a length the one that has others' marks so, and follows the tables.
    follows = [0]
    for place in range(len(question.names)):
        if place in tables:
            found[place] = [tables[place][index] for index in follows]
            nexts = [2 * index + int(truth) for index, truth in zip(follows, found[place])]
            follows = [index for index in nexts for _ in (0, 1)]
        else:
            follows = [2 * index + side for index in follows for side in (0, 1)]
    return found


def place_of_step(clauses, step):
    """The place of the mark that a step tells of; None if it tells of none."""
    word = step[0]
    if word in ("over", "twice"):
        return None
    if word == "last":
        return dropped_place(clauses.of_kind(step[1])[step[2]])
    return clauses.question.places[step[-1]]


def table_ahead(clauses, step, place, table):
    """What the mark that a step tells of does ahead of the step, where a table tells what it does behind it."""
    word = step[0]
    if word == "single":
        return [single_truth(clauses, place)] * len(table)
    if word == "pure":
        return [pure_truth(clauses, place)] * len(table)
    if word == "joined":
        having = [code for code in clauses.wish_codes if has_mark(code, place)]
        yeses = [against(place, code) for code in having if truth_in(code, place)]
        return [any(sides) for sides in zip([False] * len(table), *yeses)]
    if word == "blocked":
        code = clauses.wish_codes[step[1]]
        truth = truth_in(code, place)
    else:
        code = clauses.of_kind(step[1])[step[2]]
        truth = not truth_in(code, place)
    return [truth if is_so else told for is_so, told in zip(against(place, code), table)]


def against(place, code):
    """For each position whether all literals of a code that stand ahead of a place are against there."""
    return truths_of(fitting(yes_patterns(place), turned(ahead_of(code, place))), place)


def plain_value(question):
    """The value, where steps alone lead to no wishes, or to an empty one without guards; None else."""
    _, left = smaller(question)
    if not left.wish_lists:
        return (1, 1)
    if [] in left.wish_lists and not left.guard_lists:
        return (0, 1)
    return None


def plain_policy(question, hand):
    """The policy that wins for its hand where steps alone show that it does; None else."""
    need_question(question)
    need_side(hand)
    if plain_value(question) != ((1, 1) if hand == "we" else (0, 1)):
        return None
    steps, _ = smaller(question)
    way, _ = way_of(question, steps)
    return led_over_way(question, way, hand, {question.names[place]: [] for place in marks_by(question, hand)})

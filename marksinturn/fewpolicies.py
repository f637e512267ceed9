"""How to play by few plays."""

from marksinturn.errors import BadFew, BadTruths
from marksinturn.fewcopies import FewCopies, row_but
from marksinturn.fewplays import are_few
from marksinturn.functions import told_truth
from marksinturn.literals import position_code
from marksinturn.operations import need_kept
from marksinturn.shapes import is_list


def need_few(question, operation, few):
    """The few rows with their copies of what is due; BadFew is raised for what is no few paper."""
    need_kept(question, operation)
    found = FewCopies(question, operation)
    if not are_few(found, few):
        raise BadFew(few)
    return found


def need_truths(truths, many):
    """Raise BadTruths for what is no list of so many truths."""
    if not is_list(truths):
        raise BadTruths(0)
    for index, truth in enumerate(truths):
        if not isinstance(truth, bool):
            raise BadTruths(index)
    if len(truths) != many:
        raise BadTruths(many)


def play_by(question, operation, few, truths):
    """The play in which their marks have these truths, and ours are set by a few paper."""
    found = need_few(question, operation, few)
    need_truths(truths, len(found.their_places))
    functions = functions_by(found, few)
    play = []
    for place, name in enumerate(question.names):
        if question.hands[place] == "we":
            play.append(told_truth(question, functions[name], position_code(play)))
        else:
            play.append(truths[found.ahead[place]])
    return play


def few_policy(question, operation, few):
    """A policy of ours that plays so."""
    return functions_by(need_few(question, operation, few), few)


def functions_by(few, plays):
    """The functions of our marks, in order, by the plays of a few paper."""
    found = {}
    for place in few.our_places:
        found[few.question.names[place]] = function_by(few, plays, place)
    return found


def function_by(few, plays, place):
    """The function of our mark at a place: otherwise than where no play speaks for it, where one does.

    Of all marks of theirs each has its own play, in which it alone is
    otherwise than in most; so it is asked where the mark is so.
    """
    usual = few.operation == "both"
    ground = plays[0][place]
    pairs = []
    if not is_settled(few, plays, place, ground):
        for at in few.their_places[:few.ahead[place]]:
            own = few.rows.index(row_but(few.operation, len(few.their_places), few.ahead[at]))
            if plays[own][place] != ground:
                pairs.append(([(few.question.names[at], not usual)], not ground))
    return pairs + [([], True)] if ground else pairs


def is_settled(few, plays, place, ground):
    """Whether our mark at a place is the same in all plays, as it is so in the first one."""
    if few.operation == "middle":
        every = few.rows.index((True,) * len(few.their_places))
        return plays[every][place] == ground
    return ground != (few.operation == "both")

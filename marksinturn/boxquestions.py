"""Boxes as a team that sees inputs, and as marks of ours in order."""

from marksinturn.boxbars import Bars
from marksinturn.circuits import boxes_of, need_circuits, need_fit
from marksinturn.questions import Question
from marksinturn.refusals import SeesGates
from marksinturn.tables import position_at
from marksinturn.teams import Team


def need_plain_boxes(circuit, other):
    """Raise what is due of two circuits, SeesGates for the first box that sees a gate."""
    need_circuits(circuit, other)
    for name, parts in boxes_of(circuit):
        if any([part not in circuit[0] for part in parts]):
            raise SeesGates(name)
    need_fit(circuit, other)


def bar_clauses(circuit, other):
    """A clause for each bar, by inputs' truths, then what boxes tell: all of these with the other truths."""
    bars = Bars(circuit, other)
    clauses = []
    for at, told in bars.all_bars():
        clause = [(name, not truth) for name, truth in zip(circuit[0], position_at(bars.many, at))]
        clause.extend([(name, not truth) for name, truth in zip(bars.names, told)])
        clauses.append(clause)
    return clauses


def box_team(circuit, other):
    """The pair of the team of the boxes, which see inputs, and of the clauses that it has to keep."""
    need_plain_boxes(circuit, other)
    team = Team(circuit[0], [(name, list(parts)) for name, parts in boxes_of(circuit)])
    return (team, bar_clauses(circuit, other))


def in_order(circuit, other):
    """The question in which they set the inputs, and we each box right behind the last input that it sees."""
    need_plain_boxes(circuit, other)
    inputs = list(circuit[0])
    # How many inputs stand ahead of each box.
    ahead = [(name, max([inputs.index(part) + 1 for part in parts], default=0)) for name, parts in boxes_of(circuit)]
    marks = [(name, "we") for name, many in ahead if many == 0]
    for place, mark in enumerate(inputs):
        marks.append((mark, "they"))
        marks.extend([(name, "we") for name, many in ahead if many == place + 1])
    return Question(marks, bar_clauses(circuit, other), [])

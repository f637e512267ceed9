"""Clauses on copies of ours, papers of them that show that a team loses, and lots of settings that beat it."""

from marksinturn.judging import without_mark
from marksinturn.literals import truth_bit
from marksinturn.refusals import BadLot, BadOrder, BadSetting, BadTeamPaper
from marksinturn.shapes import is_below, is_count, is_list, is_tuple_of
from marksinturn.teamcopies import TeamCopies, sorted_copies
from marksinturn.teams import all_settings, is_setting, need_clauses, need_team


def need_copies(team, clauses):
    """A team's clauses on copies; what is due is raised."""
    need_team(team)
    return TeamCopies(team, need_clauses(team, clauses))


def copied(team, clauses, setting):
    """The pairs of an index and a copied clause at a setting, of the clauses that have one."""
    found = need_copies(team, clauses)
    if not is_setting(team, setting):
        raise BadSetting(setting)
    pairs = [(index, found.copied(setting, clause)) for index, clause in enumerate(found.clauses)]
    return [(index, literals) for index, literals in pairs if literals is not None]


def copies_of(team):
    """The ascending list of all copies."""
    need_team(team)
    return sorted_copies(team)


def are_truths(thing):
    """Whether an object is a list of truths."""
    return is_list(thing) and all([isinstance(truth, bool) for truth in thing])


def is_copied_row(thing):
    """Whether an object has the kinds of a row of a copied clause."""
    if not is_tuple_of(thing, 3) or not isinstance(thing[0], str) or thing[0] != "copied":
        return False
    return are_truths(thing[1]) and is_count(thing[2])


def is_joined_row(thing):
    """Whether an object has the kinds of a row that joins two others."""
    if not is_tuple_of(thing, 4) or not isinstance(thing[0], str) or thing[0] != "join":
        return False
    if not is_count(thing[1]) or not is_count(thing[2]) or not is_tuple_of(thing[3], 2):
        return False
    return isinstance(thing[3][0], str) and are_truths(thing[3][1])


def is_team_paper(team, clauses, thing):
    """Whether an object is a list of rows of which the last one is empty."""
    found = need_copies(team, clauses)
    if not is_list(thing) or not thing:
        return False
    codes = []
    for row in thing:
        code = None
        if is_copied_row(row):
            code = copied_code(found, row[1], row[2])
        elif is_joined_row(row):
            code = joined_row_code(found, codes, row)
        if code is None:
            return False
        codes.append(code)
    return codes[-1] == 0


def copied_code(found, setting, index):
    """The code of the copied clause with an index at a list of truths; None if there is none."""
    if len(setting) != len(found.team.their_names) or not is_below(index, len(found.clauses)):
        return None
    literals = found.copied(setting, found.clauses[index])
    return None if literals is None else found.coded(literals)


def joined_row_code(found, codes, row):
    """The code of a row that joins two of those with codes; None if they can not be joined so."""
    _, i, j, (mark, truths) = row
    copy = (mark, tuple(truths))
    if max(i, j) >= len(codes) or copy not in found.places:
        return None
    place = found.places[copy]
    if not codes[i] & truth_bit(place, False) or not codes[j] & truth_bit(place, True):
        return None
    code = without_mark(codes[i] | codes[j], place)
    # A bit for each copy: the lower one of its two.
    lower = ((1 << (2 * len(found.copies))) - 1) // 3
    return None if code & code >> 1 & lower else code


def lot_of(paper):
    """The lot of the settings of a paper, ascending."""
    if not is_list(paper) or not all([is_copied_row(row) or is_joined_row(row) for row in paper]):
        raise BadTeamPaper(paper)
    return [list(setting) for setting in sorted({tuple(row[1]) for row in paper if row[0] == "copied"})]


def beats(team, clauses, lot):
    """Whether no team policy keeps all clauses at all settings of a lot."""
    found = need_copies(team, clauses)
    if not is_list(lot) or not all([is_setting(team, setting) for setting in lot]):
        raise BadLot(lot)
    settings = [tuple(setting) for setting in lot]
    if settings != sorted(set(settings)):
        raise BadLot(lot)
    return found.are_beaten(settings)


def thin_lot(team, clauses, order):
    """What is left of all settings without each, in an order, without which those left beat; None if the team wins."""
    found = need_copies(team, clauses)
    if not is_list(order) or not all([is_setting(team, setting) for setting in order]):
        raise BadOrder(order)
    settings = [tuple(setting) for setting in order]
    left = [tuple(setting) for setting in all_settings(team)]
    if sorted(settings) != left:
        raise BadOrder(order)
    if not found.are_beaten(left):
        return None
    for setting in settings:
        others = [other for other in left if other != setting]
        if found.are_beaten(others):
            left = others
    return [list(setting) for setting in left]

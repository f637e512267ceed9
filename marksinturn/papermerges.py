"""Papers put together, and without the rows that are not asked for."""

from marksinturn.errors import BadIndex, BadKept, BadPapers
from marksinturn.hanging import led_over, needed_rows, rows_kept
from marksinturn.judging import judged, need_paper
from marksinturn.questions import need_question
from marksinturn.shapes import is_below, is_list


def need_papers(question, papers):
    """The lists of right rows of papers; BadPapers is raised for the first thing that is none."""
    if not is_list(papers):
        raise BadPapers(0)
    found = []
    for index, thing in enumerate(papers):
        right, fault = judged(question, thing)
        if fault is not None:
            raise BadPapers(index)
        found.append(right)
    return found


def merged(question, papers):
    """The pair of the rows of all papers, like ones once, and for each paper of the new indexes of its rows."""
    need_question(question)
    rights = need_papers(question, papers)
    rows = []
    known = {}
    places = []
    for right in rights:
        new = {}
        for index, row in enumerate(right.rows):
            led = led_over(row, new)
            key = (led[0], led[1], right.codes[index], led[3], led[4])
            if key not in known:
                known[key] = len(rows)
                rows.append(led)
            new[index] = known[key]
        places.append([new[index] for index in range(len(right.rows))])
    return (rows, places)


def hangs_on(question, paper, index):
    """The ascending indexes of the rows that a row is made of, through others, too, itself last."""
    need_question(question)
    right = need_paper(question, paper)
    if not is_below(index, len(right.rows)):
        raise BadIndex(index)
    needed = needed_rows(right.rows, [index])
    return [at for at, is_needed in enumerate(needed) if is_needed]


def thinned(question, paper, kept):
    """The pair of just the rows on which the kept ones hang, and the new indexes of these."""
    need_question(question)
    right = need_paper(question, paper)
    if not is_list(kept):
        raise BadKept(0)
    for at, index in enumerate(kept):
        if not is_below(index, len(right.rows)):
            raise BadKept(at)
    return rows_kept(right.rows, kept)


def unswallowed(question, paper):
    """The ascending indexes of the rows that no other one swallows, of like ones the first."""
    need_question(question)
    right = need_paper(question, paper)
    found = unswallowed_of(right, "most")
    found.extend(unswallowed_of(right, "least"))
    return sorted(found)


def unswallowed_of(right, kind):
    """Those indexes of the rows of one kind.

    In this order what swallows comes ahead of what it swallows, and numbers
    ahead say as much; so of each row just places and literals are asked.
    """
    sign = 1 if kind == "most" else -1
    lot = []
    for index, row in enumerate(right.rows):
        if row[0] == kind:
            lot.append((sign * right.parts[index], -row[1], len(row[2]), index))
    found = []
    farthest = {}
    for _, _, many, index in sorted(lot):
        code = right.codes[index]
        place = right.rows[index][1]
        if not is_swallowed(farthest, place, code, many):
            found.append(index)
            farthest[code] = max(place, farthest.get(code, 0))
    return found


def is_swallowed(farthest, place, code, many):
    """Whether among lots of literals with their farthest places one is within a lot of so many, and as far."""
    if 1 << many > len(farthest):
        return any([other & code == other and end >= place for other, end in farthest.items()])
    part = code
    while part > 0:
        if farthest.get(part, -1) >= place:
            return True
        part = (part - 1) & code
    return farthest.get(0, -1) >= place

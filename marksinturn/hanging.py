"""Rows that hang on others, and papers of just some rows."""


def needed_of(named, kept):
    """For each row, of which it is told which ones it names, whether it is kept, or a kept one hangs on it."""
    needed = [False] * len(named)
    for index in kept:
        needed[index] = True
    for index in range(len(named) - 1, -1, -1):
        if needed[index]:
            for other in named[index]:
                needed[other] = True
    return needed


def needed_rows(rows, kept):
    """For each row whether it is one of those kept, or one of them hangs on it."""
    return needed_of([row[4][1:] for row in rows], kept)


def new_places(needed):
    """The dict from the indexes of the rows that are needed to their new ones."""
    found = {}
    for index, is_needed in enumerate(needed):
        if is_needed:
            found[index] = len(found)
    return found


def led_over(row, places):
    """A new row that is like another one, with the new indexes of those that it names."""
    kind, place, literals, number, how = row
    named = [places[index] for index in how[1:]]
    return (kind, place, list(literals), number, (how[0], *named))


def rows_kept(rows, kept):
    """The pair of the rows on which those with the kept indexes hang, and the new indexes of these."""
    needed = needed_rows(rows, kept)
    places = new_places(needed)
    return [led_over(rows[index], places) for index in places], [places[index] for index in kept]

"""How many ways there are to set marks of one hand by which clauses hold."""

from marksinturn.literals import truth_bit
from marksinturn.tables import full_pattern, yes_patterns

# Of so many marks that hang together all ways are gone through at once.
FEW = 14


def places_of(code):
    """The places of the marks of which a code has a literal."""
    return [place for place in range((code.bit_length() + 1) // 2) if code >> (2 * place) & 3]


def parts_of(codes):
    """Clauses in parts that have no marks together: pairs of the places of its marks and of the codes."""
    parts = []
    for code in codes:
        places = places_of(code)
        together = [code]
        others = []
        for part in parts:
            if any([place in part[0] for place in places]):
                places = sorted(set(places + part[0]))
                together.extend(part[1])
            else:
                others.append(part)
        parts = others + [(places, together)]
    return parts


def count_ways(many, codes):
    """How many ways there are to set so many marks, those of the clauses among them, by which all hold."""
    return ways_told(many, codes, {})


def ways_told(many, codes, known):
    """The same, where it is known of some parts, which are told by their codes."""
    ways = 1
    for places, together in parts_of(codes):
        many -= len(places)
        key = tuple(sorted(together))
        if key not in known:
            known[key] = ways_of_part(places, together, known)
        ways *= known[key]
    return ways << many


def ways_of_part(places, codes, known):
    """How many ways there are to set the marks at these places by which clauses of just these hold."""
    if len(places) <= FEW:
        return ways_at_once(places, codes)
    often = [len([code for code in codes if code >> (2 * place) & 3]) for place in places]
    place = places[often.index(max(often))]
    ways = 0
    for truth in (False, True):
        left = [code & ~truth_bit(place, not truth) for code in codes if not code & truth_bit(place, truth)]
        ways = ways + ways_told(len(places) - 1, left, known)
    return ways


def ways_at_once(places, codes):
    """The same, by a pattern of all ways."""
    patterns = yes_patterns(len(places))
    full = full_pattern(len(places))
    kept = full
    for code in codes:
        held = 0
        for place, pattern in zip(places, patterns):
            if code & truth_bit(place, False):
                held |= full ^ pattern
            if code & truth_bit(place, True):
                held |= pattern
        kept &= held
    return f"{kept:b}".count("1")

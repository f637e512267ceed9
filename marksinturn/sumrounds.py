"""Sums that are to be kept round by round."""

from marksinturn.games import names_of_game, need_game
from marksinturn.sumcodes import NEVER, last_place, mark_bit, need_sums, neat_rows, told_sum


def sums_for_ever(game, sums):
    """The pair of kept and of neat sums of the states that can be kept for ever, or of lost and of how many rounds."""
    need_game(game)
    names = names_of_game(game)
    codes = need_sums(names, sums)
    places = {name: place for place, name in enumerate(names)}
    nexts = [mark_bit(places[name]) for name in game[2]]
    beginning = sum([mark_bit(place) for place, (_, truth) in enumerate(game[0]) if truth])
    lot = []
    rounds = 0
    while True:
        smaller = states_ahead(game, codes, [stepped_code(code, nexts) for code in lot])
        rounds += 1
        if not all([does_hold(code, beginning) for code in smaller]):
            return ("lost", rounds)
        if smaller == lot:
            return ("kept", [told_sum(names, code) for code in lot])
        lot = smaller


def stepped_code(code, nexts):
    """The sum of this round's marks that says what one of kept marks does in the next round."""
    found = code & 1
    for place, bit in enumerate(nexts):
        if code & mark_bit(place):
            found ^= bit
    return found


def states_ahead(game, codes, behind):
    """The neat sums of the states from which we can keep sums of a round, and sums of what comes behind it."""
    found = []
    for code, _ in neat_rows(codes + behind):
        place = last_place(code) - len(game[0])
        if code == NEVER or place >= 0 and game[1][place][1] == "they":
            return [NEVER]
        if place < 0:
            found.append(code)
    return found


def does_hold(code, state):
    """Whether a sum holds by the bits of the kept marks that are Yes."""
    return f"{code >> 1 & state >> 1:b}".count("1") & 1 == code & 1

"""Sums and answers by the document's words."""

from itertools import combinations, product


def odd(names, truths):
    return sum(truths[name] for name in names) % 2 == 1


def sum_holds(one, truths):
    return odd(one[0], truths) == one[1]


def answer_of(answer, truths):
    return odd(answer[0], truths) != answer[1]


def added(sums, order):
    """What sums make together, its marks in an order."""
    marks, truth = set(), False
    for one in sums:
        marks ^= set(one[0])
        truth ^= one[1]
    return ([name for name in order if name in marks], truth)


def all_lots(many):
    return [list(lot) for size in range(many + 1) for lot in combinations(range(many), size)]


def all_truths(names):
    return [dict(zip(names, truths)) for truths in product([False, True], repeat=len(names))]


def made_sum(source, names):
    return ([name for name in names if source.random() < 0.5], source.random() < 0.5)


def made_sums(source, names, most):
    """Sums made by chance, now and then the same one twice, or one that is others added up."""
    sums = [made_sum(source, names) for _ in range(source.randint(0, most))]
    if sums and source.random() < 0.3:
        sums.append(source.choice(sums))
    if sums and source.random() < 0.4:
        sums.append(added(source.sample(sums, source.randint(1, len(sums))), names))
    return sums

"""What all cases of small diaries say, gone through one by one and day by day, for comparison with the program."""

from itertools import combinations, product
from math import lcm
from random import Random

FAR = 10 ** 30


def choices_of(town):
    """Return all choices of a town."""
    return [(turn, first) for turn in range(town[1], town[2] + 1) for first in range(turn)]


def shows(choice, day):
    """Return True if there is market on a day by a choice."""
    turn, first = choice
    return (day - first) % turn == 0


def keeps_note(chosen, note):
    """Return True if choices by names keep a note."""
    found = [shows(chosen[name], note[-1]) for name in note[1:-1]]
    if note[0] == "market":
        return found == [True]
    if note[0] == "none":
        return found == [False]
    return (found[0] == found[1]) == (note[0] == "same")


def not_kept(towns, notes, case):
    """Return the indexes of the notes that a case does not keep."""
    chosen = {town[0]: choice for town, choice in zip(towns, case)}
    return [index for index, note in enumerate(notes) if not keeps_note(chosen, note)]


def fitting(towns, notes):
    """Return all cases that fit, ascending."""
    cases = [list(case) for case in product(*[choices_of(town) for town in towns])]
    return sorted(case for case in cases if not not_kept(towns, notes, case))


def chosen_in(towns, cases, *names):
    """Return the ascending list of what towns have in cases: choices for one name, tuples of them for several."""
    places = [[town[0] for town in towns].index(name) for name in names]
    if len(places) == 1:
        return sorted({case[places[0]] for case in cases})
    return sorted({tuple(case[place] for place in places) for case in cases})


def span(towns):
    """Return a number of days after which all that towns do comes again."""
    every = 1
    for _, low, high in towns:
        for turn in range(low, high + 1):
            every = lcm(every, turn)
    return every


def least_lot(days, every):
    """Return the told lot of days below a number by which they come again."""
    for number in range(1, every + 1):
        if every % number == 0:
            rests = sorted({day % number for day in days})
            if len(rests) * (every // number) == len(days):
                return number, rests
    raise AssertionError(every)


def surely(cases, test):
    """Return "surely", "never" or "open" of a test of cases."""
    found = {test(case) for case in cases}
    return "open" if len(found) == 2 else ("surely" if True in found else "never")


def group_by_steps(towns, notes, town):
    """Return the names of the towns that hang together with a town, step by step."""
    names = [one[0] for one in towns]
    reached = [town]
    for _ in names:
        for note in notes:
            if len(note) == 4 and set(note[1:3]) & set(reached):
                reached += note[1:3]
    return [name for name in names if name in reached]


ULM, WIEN, BONN = ("ulm", 2, 4), ("wien", 1, 3), ("bonn", 2, 3)
CHAIN = [("one", "wien", "ulm", 3), ("same", "wien", "bonn", 4)]
# Towns and notes by pairs.
SMALL = [
    ([], []),
    ([("ulm", 1, 1)], []),
    ([("ulm", 1, 1)], [("market", "ulm", 7)]),
    ([("ulm", 1, 1)], [("none", "ulm", 7)]),
    ([("ulm", 1, 6)], []),
    ([("ulm", 2, 6)], [("market", "ulm", 3), ("market", "ulm", 9), ("none", "ulm", 5)]),
    ([("ulm", 2, 6)], [("market", "ulm", 3), ("market", "ulm", 9), ("none", "ulm", 5), ("market", "ulm", 4)]),
    ([("ulm", 4, 4)], [("none", "ulm", FAR + 1), ("none", "ulm", FAR + 2)]),
    ([("ulm", 2, 3)], [("market", "ulm", 0), ("market", "ulm", 0), ("none", "ulm", FAR + 1)]),
    ([ULM, WIEN], []),
    ([ULM, WIEN], [("one", "ulm", "wien", 4), ("market", "ulm", 0)]),
    ([WIEN, ULM], [("one", "ulm", "wien", 4), ("market", "ulm", 0)]),
    ([ULM, WIEN], [("same", "wien", "ulm", 4), ("same", "ulm", "wien", 5), ("same", "wien", "ulm", 6)]),
    ([ULM, WIEN], [("same", "wien", "ulm", 4), ("one", "ulm", "wien", 4)]),
    ([("ulm", 1, 1), ("wien", 1, 5)], [("one", "ulm", "wien", 4)]),
    ([("ulm", 2, 2), ("wien", 2, 2)], [("one", "ulm", "wien", 4)]),
    ([("ulm", 2, 2), ("wien", 2, 2)], [("same", "ulm", "wien", 4)]),
    ([("ulm", 2, 3), ("wien", 2, 2)], [("one", "ulm", "wien", 4), ("market", "ulm", 0)]),
    ([("ulm", 2, 6), ("bonn", 2, 2)],
     [("market", "ulm", 3), ("market", "ulm", 9), ("none", "ulm", 5), ("market", "bonn", 0)]),
    ([ULM, WIEN, BONN], []),
    ([ULM, WIEN, BONN], [("market", "wien", 2), ("none", "bonn", 2)]),
    ([ULM, WIEN, BONN], [("market", "wien", 2), ("none", "wien", 2)]),
    ([ULM, WIEN, BONN], [("one", "ulm", "bonn", 3), ("none", "wien", 5)]),
    ([ULM, WIEN, BONN], [("one", "bonn", "ulm", 3), ("market", "wien", 5), ("none", "wien", 11)]),
    ([ULM, WIEN, BONN], CHAIN),
    ([WIEN, BONN, ULM], CHAIN),
    ([ULM, BONN, WIEN], CHAIN + [("market", "ulm", FAR)]),
    ([ULM, BONN, WIEN], CHAIN[::-1] + [("market", "ulm", 3), ("market", "bonn", 4), ("none", "wien", 4)]),
    ([("ulm", 2, 2), ("wien", 2, 2), ("bonn", 2, 2)], [("one", "ulm", "wien", 0), ("one", "wien", "bonn", 5)]),
    ([("ulm", 2, 2), ("wien", 2, 2), ("bonn", 2, 2)],
     [("one", "ulm", "wien", 0), ("one", "wien", "bonn", 0), ("one", "bonn", "ulm", 0)]),
]


def any_note(random, names):
    """Return some note of towns."""
    day = random.choice([0, 1, 2, 3, 4, 5, 6, 7, 11, 12, FAR, FAR - 1])
    if len(names) > 1 and random.random() < 0.6:
        return (random.choice(["one", "same"]), *random.sample(names, 2), day)
    return random.choice(["market", "none"]), random.choice(names), day


def some_diaries(seed, many, most):
    """Return towns and notes of some diaries, the same ones each time, with turns to a number."""
    random = Random(seed)
    made = []
    for _ in range(many):
        towns = []
        for name in ["ulm", "wien", "bonn"][:random.randint(1, 3)]:
            low = random.randint(1, most)
            towns.append((name, low, random.randint(low, most)))
        random.shuffle(towns)
        names = [town[0] for town in towns]
        made.append((towns, [any_note(random, names) for _ in range(random.randint(0, 6))]))
    return made


# Two towns that hang together, and one alone, as great as diaries may be.
GREAT_TOWNS = [("ulm", 1, 8), ("bonn", 1, 8), ("wien", 1, 8)]
GREAT = [
    (GREAT_TOWNS, []),
    (GREAT_TOWNS, [("same", "ulm", "wien", 0), ("one", "wien", "ulm", FAR), ("none", "ulm", 3),
                   ("one", "ulm", "wien", 5), ("same", "ulm", "wien", FAR - 1), ("none", "bonn", 17)]),
    (GREAT_TOWNS, [("same", "ulm", "wien", 1), ("same", "ulm", "wien", 2), ("same", "wien", "ulm", 4),
                   ("same", "ulm", "wien", 8), ("same", "ulm", "wien", 16), ("same", "wien", "ulm", 32)]),
    ([("ulm", 7, 8), ("bonn", 5, 8), ("wien", 6, 8)],
     [("market", "ulm", 5), ("one", "ulm", "bonn", 6), ("same", "bonn", "ulm", 7), ("one", "ulm", "bonn", 12),
      ("market", "bonn", 6), ("none", "wien", 9)]),
]


def parts_of(things):
    """Return all lists of some things, ascending each, by their number, then as lists."""
    return [list(part) for size in range(len(things) + 1) for part in combinations(things, size)]


def least_sets(many, test):
    """Return all sets of numbers below a number that pass a test, and of which no part does."""
    passed = [chosen for chosen in parts_of(range(many)) if test(chosen)]
    return [chosen for chosen in passed if not [one for one in passed if set(one) < set(chosen)]]


def word_by_trying(towns, cases, town, day):
    """Return what cases surely say of a town and a day."""
    return {"surely": "market", "never": "none", "open": "open"}[
        surely(cases, lambda case: shows(case[[one[0] for one in towns].index(town)], day))]

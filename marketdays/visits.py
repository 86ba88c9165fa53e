"""Visits: which days to visit a town on to be told its choice, its turn, or what is on a day."""

from marketdays.cases import choices
from marketdays.diaries import check_asked
from marketdays.lots import check_day
from marketdays.telling import Telling, answer_of
from marketdays.turns import has_market, number_with

GOALS = ("choice", "turn")


def left(diary, town, day):
    """Return a tuple of the numbers of choices that are left if a visit shows market, and if it shows none."""
    check_visits(diary, town, [day])
    return numbers_left(choices(diary, town), day)


def best_visit(diary, town, days):
    """Return the first day of a list with which the greater number of choices left is the least; None if empty."""
    check_visits(diary, town, days)
    found = choices(diary, town)
    return min(days, key=lambda day: max(numbers_left(found, day)), default=None)


def visits(diary, town, days, goal):
    """Return the least number of visits on days of a list that surely tell a goal; None if none do."""
    check_visits(diary, town, days)
    check_goal(goal)
    telling = Telling(choices(diary, town), days, goal)
    if telling.blurred():
        return None
    return telling.need(telling.whole)


def plan(diary, town, days, goal):
    """Return a plan with the least number of visits on days of a list, None if there is none."""
    check_visits(diary, town, days)
    check_goal(goal)
    telling = Telling(choices(diary, town), days, goal)
    if telling.blurred():
        return None
    return plan_of(telling, telling.whole)


def judge_plan(diary, town, told, goal):
    """Return True if a plan leads each choice of the town to the right answer, otherwise False."""
    check_visits(diary, town, [])
    check_goal(goal)
    return all([is_end(end_of(told, choice), answer_of(choice, goal)) for choice in choices(diary, town)])


def longest(told):
    """Return the greatest number of visits of a plan, 0 for None."""
    many = 0
    rows = unlike_visits([told])
    while rows:
        many += 1
        rows = unlike_visits([then for row in rows for then in row[2:]])
    return many


def hold(diary, town, days, many, goal):
    """Return rows which show that so many visits on days of a list do not surely tell a goal; None if they do."""
    check_visits(diary, town, days)
    check_goal(goal)
    check_day(many)
    telling = Telling(choices(diary, town), days, goal)
    blurred = telling.blurred()
    if blurred:
        return [(telling.chosen(blurred), many)]
    if telling.need(telling.whole) <= many:
        return None
    return rows_holding(telling, many)


def judge_hold(diary, town, days, many, told, goal):
    """Return True if rows show that so many visits on days of a list do not surely tell a goal, otherwise False."""
    check_visits(diary, town, days)
    check_goal(goal)
    check_day(many)
    found = choices(diary, town)
    if told is None or not all([is_doubtful(found, chosen, goal) for chosen, _ in told]):
        return False
    most = {}
    for chosen, number in told:
        most[tuple(chosen)] = max(number, most.get(tuple(chosen), number))
    if not any([number >= many for number in most.values()]):
        return False
    return all([holds_on(chosen, number, day, most) for chosen, number in told if number > 0 for day in days])


def check_visits(diary, town, days):
    """Raise the error of a town or of days that are asked of."""
    check_asked(diary.names(), [town])
    for day in days:
        check_day(day)


def check_goal(goal):
    """Raise InvalidDay if a goal is a day less than 0."""
    if goal not in GOALS:
        check_day(goal)


def numbers_left(found, day):
    """Return a tuple of the numbers of choices with market on a day, and of those without."""
    held = number_with(found, day)
    return held, len(found) - held


def plan_of(telling, bits):
    """Return a plan with the least number of visits for a set of choices."""
    if telling.is_told(bits):
        return "told", telling.answer(bits)
    day, held, free = telling.best_part(bits)
    return "visit", day, plan_of(telling, held), plan_of(telling, free)


def end_of(told, choice):
    """Return the part of a plan to which it leads a choice."""
    while told is not None and told[0] == "visit":
        _, day, held, free = told
        told = held if has_market(choice, day) else free
    return told


def is_end(told, answer):
    """Return True if the end of a plan tells an answer, otherwise False."""
    if told is None:
        return False
    shown = told[1]
    # True and False are no integers, though Python takes them for 1 and 0.
    return type(shown) is type(answer) and shown == answer


def unlike_visits(plans):
    """Return the unlike ones of some plans that begin with a visit."""
    found = []
    for row in plans:
        # A plan that stands in several places is gone through once.
        if row is not None and row[0] == "visit" and row not in found:
            found.append(row)
    return found


def rows_holding(telling, many):
    """Return rows which show that so many visits do not tell enough, where more are needed."""
    rows = []
    sets = [telling.whole]
    for number in range(many, -1, -1):
        rows.extend([(telling.chosen(bits), number) for bits in sets])
        sets = sorted({telling.harder(held, free) for bits in sets for _, held, free in telling.parted(bits)})
    return rows


def is_doubtful(found, chosen, goal):
    """Return True if a list has ascending unlike choices, two of them with unlike answers, otherwise False."""
    if chosen != [choice for choice in found if choice in chosen]:
        return False
    return any([answer_of(choice, goal) != answer_of(chosen[0], goal) for choice in chosen])


def holds_on(chosen, number, day, most):
    """Return True if a visit on a day may leave choices whose row has a number less by at most one, otherwise False."""
    held = tuple([choice for choice in chosen if has_market(choice, day)])
    free = tuple([choice for choice in chosen if not has_market(choice, day)])
    return any([part in most and most[part] + 1 >= number for part in (held, free)])

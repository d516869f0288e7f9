"""Ranked sets: sets of rules each of which is defended by those of lesser ranks."""

from reasonhall.rulesets import has_rule, members_of, set_of
from reasonhall.strikes import all_strikers, defends

HIGHEST_RANK = 10

NO_RULES_BIT = 0
WRONG_RANK = 1
NOT_DEFENDED = 2


def fitting_rank(inside, rank):
    """Whether a rule may have the rank, inside the set or not."""
    if inside:
        return rank >= 1 and rank <= HIGHEST_RANK
    return rank == 0


def wrong_rank_fault(rules, ranks):
    """The fault of the first rule that has a rank it can't have; nothing if there's none such."""
    for number, rank in enumerate(ranks):
        if not fitting_rank(has_rule(rules, number), rank):
            return [WRONG_RANK, number]
    return []


def undefended_fault(case, rules, ranks):
    """The fault of the first rule that those of lesser ranks don't defend; nothing if there's none such."""
    strikers = all_strikers(case)
    members = members_of(case, rules)
    for number in members:
        lesser = set_of([other for other in members if ranks[other] < ranks[number]])
        if not defends(lesser, number, strikers):
            return [NOT_DEFENDED, number]
    return []


def ranking_fault(case, rules, ranks):
    """The fault that keeps the set from being a ranked set, two numbers; none if it is one."""
    if rules >> len(case.rules) != 0:
        return [NO_RULES_BIT, 0]
    fault = wrong_rank_fault(rules, ranks)
    if len(fault) == 0:
        fault = undefended_fault(case, rules, ranks)
    return fault

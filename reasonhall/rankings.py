"""Ranked sets: sets of rules each of which is defended by those of lesser ranks; least ranks, and the ground."""

from reasonhall.rulesets import has_other_bit, has_rule, members_of, set_of
from reasonhall.strikes import all_strikers, defended_by, followers

HIGHEST_RANK = 10

NO_RULES_BIT = 0
WRONG_RANK = 1
NOT_DEFENDED = 2


def fitting_rank(inside, rank):
    """Whether a rule may have the rank, inside the set or not."""
    if inside:
        return rank >= 1 and rank <= HIGHEST_RANK
    return rank == 0


def wrong_rank_fault(rules, ranks):
    """The fault of the first rule that has a rank it can't have; nothing if there's none such."""
    for number, rank in enumerate(ranks):
        if not fitting_rank(has_rule(rules, number), rank):
            return [WRONG_RANK, number]
    return []


def undefended_fault(case, rules, ranks):
    """The fault of the first rule that those of lesser ranks don't defend; nothing if there's none such."""
    strikers = all_strikers(case, followers(case))
    members = members_of(case, rules)
    for number in members:
        lesser = set_of([other for other in members if ranks[other] < ranks[number]])
        if not has_rule(defended_by(lesser, strikers), number):
            return [NOT_DEFENDED, number]
    return []


def ranking_fault(case, rules, ranks):
    """The fault that keeps the set from being a ranked set, two numbers; none if it is one."""
    if has_other_bit(case, rules):
        return [NO_RULES_BIT, 0]
    fault = wrong_rank_fault(rules, ranks)
    if len(fault) == 0:
        fault = undefended_fault(case, rules, ranks)
    return fault


def least_ranks(rules, strikers):
    """For each rule its least rank in the set; 0 of one that isn't in the set, or that can't have a rank there."""
    ranks = [0] * len(strikers)
    latest = 0
    before = -1
    reached = 0
    while reached != before:
        before = reached
        latest = latest + 1
        # More rules defend more, so those that have a rank already come in again.
        reached = rules & defended_by(before, strikers)
        for number in range(len(ranks)):
            if ranks[number] == 0 and has_rule(reached, number):
                ranks[number] = latest
    return ranks


def rules_with_rank(ranks):
    """The set of the rules that have a rank."""
    return set_of([number for number, rank in enumerate(ranks) if rank > 0])


def ground_of(strikers):
    """The ground: the rules that come in by some round where all rules may."""
    everything = (1 << len(strikers)) - 1
    return rules_with_rank(least_ranks(everything, strikers))

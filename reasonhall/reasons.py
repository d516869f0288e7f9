"""Reasons that a literal stands: the one told, and the check of one."""

from reasonhall.derivations import derivation_fault, possible_steps, told_derivation
from reasonhall.rankings import ground_of, least_ranks, ranking_fault, rules_with_rank
from reasonhall.rulesets import is_within, members_of
from reasonhall.steps import literal_rounds
from reasonhall.strikes import all_strikers, followers, has_literal

FALSE_RANKING = 1
FALSE_DERIVATION = 2


def sets_for(case, literal, following, ground):
    """The sets within the ground from which the literal follows, the fewest rules first, then the least number."""
    found = []
    for rules, reached in enumerate(following):
        if is_within(rules, ground) and has_literal(reached, literal):
            found.append(rules)
    return sorted(found, key=lambda one: (len(members_of(case, one)), one))


def told_steps(case, rules, literal):
    """The derivation told of a literal that follows from the set, as a row."""
    steps = possible_steps(case, rules)
    return told_derivation(steps, literal_rounds(steps), literal)


def told_reason(case, literal):
    """The reason told that the literal stands, as a row: the set, the ranks, the steps; None if it doesn't stand."""
    following = followers(case)
    strikers = all_strikers(case, following)
    # Every set that can be ranked is within the ground, which can be ranked: so one is found just if the literal
    # follows from the ground.
    for rules in sets_for(case, literal, following, ground_of(strikers)):
        ranks = least_ranks(rules, strikers)
        if rules_with_rank(ranks) == rules:
            return [rules] + ranks + told_steps(case, rules, literal)
    return None


def reason_fault(case, literal, rules, ranks, row):
    """The fault that keeps set, ranks and steps from being a reason: which part's, and its two numbers; or none."""
    fault = ranking_fault(case, rules, ranks)
    if len(fault) > 0:
        return [FALSE_RANKING] + fault
    fault = derivation_fault(case, rules, literal, row)
    if len(fault) > 0:
        return [FALSE_DERIVATION] + fault
    return []

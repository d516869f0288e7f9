"""The calls: each takes what it is asked about and a case's text, and answers a list of whole numbers."""

from reasonhall.cases import read_case
from reasonhall.derivations import possible_steps, told_derivation
from reasonhall.steps import literal_rounds

MOST_BYTES = 8192

TAKEN = 0
OUT_OF_RANGE = -1
NONE_THERE = -3
NO_CASE = -6


def refusal_of(rules, literal, t, case):
    """The first refusal that holds of a set, a literal and a text, as which case was read; else TAKEN."""
    if len(t) > MOST_BYTES:
        return OUT_OF_RANGE
    if case is None:
        return NO_CASE
    if rules >> len(case.rules) != 0 or literal >= 2 * len(case.atoms):
        return OUT_OF_RANGE
    return TAKEN


def derive(rules, literal, t):
    """The steps of the derivation told of the literal from the set of rules."""
    case = read_case(t)
    refusal = refusal_of(rules, literal, t, case)
    if refusal != TAKEN:
        return [refusal]
    steps = possible_steps(case, rules)
    rounds = literal_rounds(steps)
    if literal not in rounds:
        return [NONE_THERE]
    return [TAKEN] + told_derivation(steps, rounds, literal)


def round_of(rules, literal, t):
    """The round of the literal from the set of rules."""
    case = read_case(t)
    refusal = refusal_of(rules, literal, t, case)
    if refusal != TAKEN:
        return [refusal]
    rounds = literal_rounds(possible_steps(case, rules))
    if literal not in rounds:
        return [NONE_THERE]
    return [TAKEN, rounds[literal]]

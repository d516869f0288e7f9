"""The calls: each takes what it is asked about and a case's text, and answers a list of whole numbers."""

from reasonhall.cases import read_case
from reasonhall.derivations import derivation_fault, possible_steps, told_derivation
from reasonhall.doubts import is_doubt, told_doubt
from reasonhall.rankings import ranking_fault
from reasonhall.reasons import reason_fault, told_reason
from reasonhall.rulesets import has_other_bit
from reasonhall.steps import literal_rounds

MOST_BYTES = 8192

TAKEN = 0
OUT_OF_RANGE = -1
NONE_THERE = -3
NO_CASE = -6

NO = 0
YES = 1


def text_refusal(t, case):
    """The first refusal that holds of a text, as which case was read; else TAKEN."""
    if len(t) > MOST_BYTES:
        return OUT_OF_RANGE
    if case is None:
        return NO_CASE
    return TAKEN


def literal_refusal(literal, t, case):
    """The first refusal that holds of a literal and a text, as which case was read; else TAKEN."""
    refusal = text_refusal(t, case)
    if refusal == TAKEN and literal >= 2 * len(case.atoms):
        return OUT_OF_RANGE
    return refusal


def refusal_of(rules, literal, t, case):
    """The first refusal that holds of a set, a literal and a text, as which case was read; else TAKEN."""
    refusal = literal_refusal(literal, t, case)
    if refusal == TAKEN and has_other_bit(case, rules):
        return OUT_OF_RANGE
    return refusal


def verdict(fault):
    """What a check answers that found this fault, or none."""
    if len(fault) == 0:
        return [TAKEN, YES]
    return [TAKEN, NO] + fault


def derive(rules, literal, t):
    """The steps of the derivation told of the literal from the set of rules."""
    case = read_case(t)
    refusal = refusal_of(rules, literal, t, case)
    if refusal != TAKEN:
        return [refusal]
    steps = possible_steps(case, rules)
    rounds = literal_rounds(steps)
    if literal not in rounds:
        return [NONE_THERE]
    return [TAKEN] + told_derivation(steps, rounds, literal)


def round_of(rules, literal, t):
    """The round of the literal from the set of rules."""
    case = read_case(t)
    refusal = refusal_of(rules, literal, t, case)
    if refusal != TAKEN:
        return [refusal]
    rounds = literal_rounds(possible_steps(case, rules))
    if literal not in rounds:
        return [NONE_THERE]
    return [TAKEN, rounds[literal]]


def derived(rules, literal, t, steps):
    """Whether the steps are a derivation of the literal from the set of rules; if not, their fault."""
    case = read_case(t)
    refusal = refusal_of(rules, literal, t, case)
    if refusal != TAKEN:
        return [refusal]
    return verdict(derivation_fault(case, rules, literal, steps))


def ranked(rules, t, ranks):
    """Whether the set of rules with these ranks is a ranked set; if not, its fault."""
    case = read_case(t)
    refusal = text_refusal(t, case)
    if refusal != TAKEN:
        return [refusal]
    if len(ranks) != len(case.rules):
        return [OUT_OF_RANGE]
    return verdict(ranking_fault(case, rules, ranks))


def reason(literal, t):
    """The reason told that the literal stands: the set of rules, their ranks, the steps."""
    case = read_case(t)
    refusal = literal_refusal(literal, t, case)
    if refusal != TAKEN:
        return [refusal]
    told = told_reason(case, literal)
    if told is None:
        return [NONE_THERE]
    return [TAKEN] + told


def reasoned(literal, rules, t, ranks, steps):
    """Whether set, ranks and steps are a reason that the literal stands; if not, their fault."""
    case = read_case(t)
    refusal = literal_refusal(literal, t, case)
    if refusal != TAKEN:
        return [refusal]
    if len(ranks) != len(case.rules):
        return [OUT_OF_RANGE]
    return verdict(reason_fault(case, literal, rules, ranks, steps))


def doubt(literal, t):
    """The doubt told that the literal stands: a set of rules."""
    case = read_case(t)
    refusal = literal_refusal(literal, t, case)
    if refusal != TAKEN:
        return [refusal]
    told = told_doubt(case, literal)
    if told is None:
        return [NONE_THERE]
    return [TAKEN, told]


def doubted(literal, rules, t):
    """Whether the set of rules is a doubt that the literal stands."""
    case = read_case(t)
    refusal = literal_refusal(literal, t, case)
    if refusal != TAKEN:
        return [refusal]
    if is_doubt(case, literal, rules):
        return [TAKEN, YES]
    return [TAKEN, NO]

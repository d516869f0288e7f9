"""Sets of rules, which are numbers: bit i for rule i."""


def has_rule(rules, number):
    """Whether the rule is in the set."""
    return (rules >> number) & 1 == 1


def is_within(part, rules):
    """Whether all rules of the part are in the set."""
    return part & rules == part


def has_other_bit(case, rules):
    """Whether the set has a bit that's no rule's."""
    return rules >> len(case.rules) != 0


def members_of(case, rules):
    """The numbers of the rules that are in the set."""
    return [number for number in range(len(case.rules)) if has_rule(rules, number)]


def set_of(numbers):
    """The set of the rules that have these numbers."""
    rules = 0
    for number in numbers:
        rules = rules | (1 << number)
    return rules

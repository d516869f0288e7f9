"""Doubts that a literal stands: the one told, and whether a set is one."""

from reasonhall.rankings import ground_of
from reasonhall.rulesets import has_other_bit, is_within
from reasonhall.strikes import all_strikers, defended_by, followers, has_literal


def told_doubt(case, literal):
    """The doubt told that the literal stands, a set; None if it stands."""
    following = followers(case)
    ground = ground_of(all_strikers(case, following))
    if has_literal(following[ground], literal):
        return None
    return ground


def is_doubt(case, literal, rules):
    """Whether the set is a doubt that the literal stands."""
    if has_other_bit(case, rules):
        return False
    following = followers(case)
    if has_literal(following[rules], literal):
        return False
    return is_within(defended_by(rules, all_strikers(case, following)), rules)

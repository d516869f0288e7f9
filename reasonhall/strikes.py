"""Strikes: which sets of rules clash, by which sets a rule is struck, and what a set defends."""

from reasonhall.rulesets import is_within, members_of, set_of


def literal_bits(literals):
    """The literals as one number: bit n for literal n."""
    bits = 0
    for literal in literals:
        bits = bits | (1 << literal)
    return bits


def has_literal(reached, literal):
    """Whether the literal is among those that are reached, as bits."""
    return (reached >> literal) & 1 == 1


def clause_bits(clause):
    """A law's or rule's body and its head, both as bits."""
    return (literal_bits(clause.body), 1 << clause.head)


def gone_on(reached, clauses):
    """All literals, as bits, that come by the clauses' bits from those that are reached."""
    before = -1
    while reached != before:
        before = reached
        for body, head in clauses:
            if body & reached == body:
                reached = reached | head
    return reached


def followers(case):
    """For each set of rules the literals that follow from it, as bits."""
    laws = [clause_bits(law) for law in case.laws]
    heads = [clause_bits(rule) for rule in case.rules]
    table = [gone_on(0, laws)]
    for rules in range(1, 1 << len(case.rules)):
        members = members_of(case, rules)
        # What follows from fewer rules follows from more, so each set goes on from the one without its first rule.
        rest = rules - (1 << members[0])
        given = table[rest] | (1 << case.names[members[0]])
        table.append(gone_on(given, [heads[number] for number in members] + laws))
    return table


def opposites_meet(reached, atoms):
    """Whether one of so many atoms and its opposite are both reached."""
    return any([(reached >> (2 * atom)) & 3 == 3 for atom in range(atoms)])


def clash_table(case, following):
    """For each set of rules whether it clashes; following tells for each what follows from it, as bits."""
    return [opposites_meet(reached, len(case.atoms)) for reached in following]


def strikers_of(number, outweighed, clashing):
    """The strikers of a rule, which outweighs the rules of the set outweighed."""
    own = 1 << number
    found = []
    # A set comes behind all that are within it, so one that has none of those found within it is a least one.
    for rules in range(len(clashing)):
        if rules & (own | outweighed) == 0 and not clashing[rules] and clashing[rules | own]:
            if not any([is_within(least, rules) for least in found]):
                found.append(rules)
    return found


def all_strikers(case, following):
    """For each rule of the case its strikers; following tells for each set what follows from it, as bits."""
    clashing = clash_table(case, following)
    return [strikers_of(number, outweighed, clashing) for number, outweighed in enumerate(case.outweighed)]


def has_striker(rules, own_strikers):
    """Whether the set of rules strikes the rule that has these strikers of its own."""
    return any([is_within(one, rules) for one in own_strikers])


def struck_by(rules, strikers):
    """The set of the rules that the set of rules strikes."""
    return set_of([number for number, own in enumerate(strikers) if has_striker(rules, own)])


def all_meet(own_strikers, struck):
    """Whether each of a rule's own strikers has a rule that is among the struck ones."""
    return all([one & struck != 0 for one in own_strikers])


def defended_by(rules, strikers):
    """The set of the rules that the set of rules defends, all rules of the case being there."""
    struck = struck_by(rules, strikers)
    # Every set that strikes a rule has a striker of it within, so the strikers speak for all.
    return set_of([number for number, own in enumerate(strikers) if all_meet(own, struck)])

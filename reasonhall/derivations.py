"""The steps that a set of rules allows, and the derivation told of a literal."""

from reasonhall.steps import LAW_HEAD, RULE_HEAD, RULE_NAME, Step


def members_of(case, rules):
    """The numbers of the rules that are in the set."""
    return [number for number in range(len(case.rules)) if (rules >> number) & 1 == 1]


def possible_steps(case, rules):
    """All steps that the set allows, in order by kind, then by number."""
    members = members_of(case, rules)
    steps = [Step(RULE_NAME, number, (), case.names[number]) for number in members]
    for number, law in enumerate(case.laws):
        steps.append(Step(LAW_HEAD, number, law.body, law.head))
    for number in members:
        steps.append(Step(RULE_HEAD, number, case.rules[number].body, case.rules[number].head))
    return steps


def all_below(literals, rounds, bound):
    """Whether all of the literals have a round, and one below the bound."""
    return all([rounds.get(literal, bound) < bound for literal in literals])


def told_step(steps, rounds, literal):
    """The step told of a literal that follows."""
    own = rounds[literal]
    fitting = [step for step in steps if step.literal == literal and all_below(step.body, rounds, own)]
    # The steps are in order, so the first is of the least kind, and of these of the least number.
    return fitting[0]


def needed_steps(steps, rounds, literal):
    """A dict: of each literal that is needed for the literal its told step."""
    told = {}
    waiting = [literal]
    while len(waiting) > 0:
        needed = waiting.pop()
        if needed not in told:
            step = told_step(steps, rounds, needed)
            told[needed] = step
            waiting.extend(step.body)
    return told


def told_derivation(steps, rounds, literal):
    """The derivation told of a literal that follows, as a row: kind, number, kind, number."""
    told = needed_steps(steps, rounds, literal)
    row = []
    for needed in sorted(told, key=lambda one: (rounds[one], one)):
        row.append(told[needed].kind)
        row.append(told[needed].number)
    return row

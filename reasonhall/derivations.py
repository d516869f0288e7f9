"""The steps that a set of rules allows, the derivation told of a literal, and the check of a derivation."""

from reasonhall.rulesets import members_of
from reasonhall.steps import LAW_HEAD, RULE_HEAD, RULE_NAME, Step

MOST_STEPS = 256

NO_FAULT = 0
NO_SUCH_STEP = 1
BODY_NOT_YIELDED = 2
YIELDED_AGAIN = 3
WRONG_LENGTH = 4
NOT_NEEDED = 5
OTHER_LITERAL = 6


def possible_steps(case, rules):
    """All steps that the set allows, in order by kind, then by number."""
    members = members_of(case, rules)
    steps = [Step(RULE_NAME, number, (), case.names[number]) for number in members]
    for number, law in enumerate(case.laws):
        steps.append(Step(LAW_HEAD, number, law.body, law.head))
    for number in members:
        steps.append(Step(RULE_HEAD, number, case.rules[number].body, case.rules[number].head))
    return steps


def all_below(literals, rounds, bound):
    """Whether all of the literals have a round, and one below the bound."""
    return all([rounds.get(literal, bound) < bound for literal in literals])


def told_step(steps, rounds, literal):
    """The step told of a literal that follows."""
    own = rounds[literal]
    fitting = [step for step in steps if step.literal == literal and all_below(step.body, rounds, own)]
    # The steps are in order, so the first is of the least kind, and of these of the least number.
    return fitting[0]


def needed_steps(steps, rounds, literal):
    """A dict: of each literal that is needed for the literal its told step."""
    told = {}
    waiting = [literal]
    while len(waiting) > 0:
        needed = waiting.pop()
        if needed not in told:
            step = told_step(steps, rounds, needed)
            told[needed] = step
            waiting.extend(step.body)
    return told


def told_derivation(steps, rounds, literal):
    """The derivation told of a literal that follows, as a row: kind, number, kind, number."""
    told = needed_steps(steps, rounds, literal)
    row = []
    for needed in sorted(told, key=lambda one: (rounds[one], one)):
        row.append(told[needed].kind)
        row.append(told[needed].number)
    return row


def steps_of_row(case, rules, row):
    """The steps of a row (kind, number, kind, number), with None for each that can't be."""
    allowed = {}
    for step in possible_steps(case, rules):
        allowed[(step.kind, step.number)] = step
    return [allowed.get((row[place], row[place + 1])) for place in range(0, len(row), 2)]


def step_fault(step, yielded):
    """The fault that a step has in itself, or with what the steps before it have yielded."""
    if step is None:
        return NO_SUCH_STEP
    if not all([needed in yielded for needed in step.body]):
        return BODY_NOT_YIELDED
    if step.literal in yielded:
        return YIELDED_AGAIN
    return NO_FAULT


def first_step_fault(steps):
    """The first fault that a step has, and the step's place; nothing if none has one."""
    yielded = {}
    for place, step in enumerate(steps):
        fault = step_fault(step, yielded)
        if fault != NO_FAULT:
            return [fault, place]
        yielded[step.literal] = True
    return []


def unneeded_fault(steps):
    """The fault of the first step but the last that no later one needs; nothing if there's none such."""
    latest_need = {}
    for place, step in enumerate(steps):
        for needed in step.body:
            latest_need[needed] = place
    for place, step in enumerate(steps[:-1]):
        if latest_need.get(step.literal, place) <= place:
            return [NOT_NEEDED, place]
    return []


def derivation_fault(case, rules, literal, row):
    """The fault that keeps the row from being a derivation of the literal, two numbers; none if it is one."""
    if len(row) == 0 or len(row) > 2 * MOST_STEPS:
        return [WRONG_LENGTH, 0]
    steps = steps_of_row(case, rules, row)
    fault = first_step_fault(steps)
    if len(fault) == 0:
        fault = unneeded_fault(steps)
    if len(fault) == 0 and steps[-1].literal != literal:
        fault = [OTHER_LITERAL, len(steps) - 1]
    return fault

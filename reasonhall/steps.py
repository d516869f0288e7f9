"""Steps, and the rounds in which literals come to follow by them."""

RULE_NAME = 0
LAW_HEAD = 1
RULE_HEAD = 2


class Step:
    """A step that may be taken: its kind and number, the literals it needs, the literal it yields."""

    def __init__(self, kind, number, body, literal):
        self.kind = kind
        self.number = number
        self.body = body
        self.literal = literal


def fresh_literals(steps, rounds):
    """What the steps yield that has no round yet, from bodies all of which have one."""
    fresh = []
    for step in steps:
        if step.literal not in rounds and all([needed in rounds for needed in step.body]):
            fresh.append(step.literal)
    return fresh


def literal_rounds(steps):
    """A dict: of each literal that follows by the steps its round."""
    rounds = {}
    latest = 0
    fresh = fresh_literals(steps, rounds)
    while len(fresh) > 0:
        latest = latest + 1
        for literal in fresh:
            rounds[literal] = latest
        fresh = fresh_literals(steps, rounds)
    return rounds

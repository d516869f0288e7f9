"""What the tests share: texts as bytes, and a second reading of "Cases" and "Derivations" to check against.

The reading here goes by other ways than the program (patterns for lines, least numbers for rounds, closed
sets of literals for what follows), so that a mistake in one is seen by the other.
"""

import re

from reasonhall.cases import Draft, enter_text

CLAUSE = re.compile(r"(law|rule) ([a-z0-9-]+):((?: ~?[a-z0-9-]+,)*(?: ~?[a-z0-9-]+)?) (?:->|=>) (~?[a-z0-9-]+)")


def bytes_of(text):
    return list(text.encode("ascii"))


def fault_of(text):
    t = text if isinstance(text, list) else bytes_of(text)
    return enter_text(Draft(), t)


class PlainCase:
    """A text without fault: atoms, laws and rules in order, literals by their numbers."""

    def __init__(self, text):
        found = [CLAUSE.fullmatch(row) for row in text.splitlines() if not row.startswith("weigh ")]
        told = [(m[1], m[2], re.findall(r"~?[a-z][a-z0-9-]*", m[3]), m[4]) for m in found]
        names = {literal.lstrip("~") for row in told for literal in row[2] + [row[3]]}
        names |= {row[1] for row in told if row[0] == "rule"}
        self.atoms = sorted(names, key=lambda name: name.encode("ascii"))
        self.laws = self.clauses(told, "law")
        self.rules = self.clauses(told, "rule")

    def clauses(self, told, sort):
        rows = sorted((name.encode("ascii"), name, body, head) for s, name, body, head in told if s == sort)
        return [(name, [self.number(one) for one in body], self.number(head)) for _, name, body, head in rows]

    def number(self, literal):
        return 2 * self.atoms.index(literal.lstrip("~")) + (1 if literal.startswith("~") else 0)

    def literals(self):
        return range(2 * len(self.atoms))

    def sets(self):
        return range(2 ** len(self.rules))

    def step(self, kind, number, rules):
        """Body and literal of a step that the set allows; None if it can't be."""
        if kind == 1:
            return self.laws[number][1:] if number < len(self.laws) else None
        if kind > 2 or number >= len(self.rules) or not rules >> number & 1:
            return None
        return ([], self.number(self.rules[number][0])) if kind == 0 else self.rules[number][1:]

    def steps(self, rules):
        every = [(kind, number) for kind in range(3) for number in range(max(len(self.laws), len(self.rules)))]
        return [(one, *self.step(*one, rules)) for one in every if self.step(*one, rules) is not None]

    def follows(self, rules):
        """The least set of literals, as the common part of all closed sets."""
        common = set(self.literals())
        steps = self.steps(rules)
        for bits in range(2 ** len(self.literals())):
            if all(bits >> head & 1 for _, body, head in steps if all(bits >> one & 1 for one in body)):
                common &= {one for one in self.literals() if bits >> one & 1}
        return common

    def rounds(self, rules):
        """Least numbers such that each step's literal comes at most one behind the latest of its body."""
        rounds = {}
        changed = True
        while changed:
            changed = False
            for _, body, head in self.steps(rules):
                if all(one in rounds for one in body):
                    found = 1 + max([rounds[one] for one in body], default=0)
                    if found < rounds.get(head, found + 1):
                        rounds[head] = found
                        changed = True
        return rounds

    def told(self, rules, literal):
        """The derivation told, as a row; None if the literal doesn't follow."""
        rounds = self.rounds(rules)
        if literal not in rounds:
            return None
        needed = {}
        self.need(literal, rules, rounds, needed)
        order = sorted(needed, key=lambda one: (rounds[one], one))
        return [number for one in order for number in needed[one]]

    def need(self, literal, rules, rounds, needed):
        fits = [
            (one, body) for one, body, head in self.steps(rules)
            if head == literal and all(rounds.get(b, 999) < rounds[literal] for b in body)
        ]
        needed[literal], body = min(fits)
        for one in body:
            self.need(one, rules, rounds, needed)

    def is_derivation(self, rules, literal, row):
        """Word for word what "Derivations" asks of a derivation of the literal from the set."""
        steps = list(zip(row[::2], row[1::2]))
        if len(row) % 2 or not 1 <= len(steps) <= 256:
            return False
        read = [self.step(kind, number, rules) for kind, number in steps]
        if None in read:
            return False
        yielded = [head for _, head in read]
        for place, (body, head) in enumerate(read):
            if not set(body) <= set(yielded[:place]) or head in yielded[:place]:
                return False
            if place < len(read) - 1 and not any(head in later for later, _ in read[place + 1:]):
                return False
        return yielded[-1] == literal

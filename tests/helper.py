"""What the tests share: texts as bytes, texts made up, and a second reading of the document to check against.

The reading here goes by other ways than the program (patterns for lines, least numbers for rounds, closed
sets of literals for what follows, all sets in the place of the least ones for strikes and defence), so that
a mistake in one is seen by the other.
"""

import itertools
import re

from reasonhall.cases import Draft, enter_text

WEIGHT = re.compile(r"weigh ([a-z0-9-]+) > ([a-z0-9-]+)")
CLAUSE = re.compile(r"(law|rule) ([a-z0-9-]+):((?: ~?[a-z0-9-]+,)*(?: ~?[a-z0-9-]+)?) (?:->|=>) (~?[a-z0-9-]+)")

# Each rule strikes the next one alone: a b c d e f g h i j are the rules 0 to 9.
CHAIN = "".join(f"rule {name}: => h{name}\n" for name in "abcdefghij")
CHAIN += "".join(f"law x{one}: {one} -> ~{two}\n" for one, two in zip("abcdefghi", "bcdefghij"))
WEIGHED_CHAIN = CHAIN + "".join(f"weigh {one} > {two}\n" for one, two in zip("abcdefghi", "bcdefghij"))


def bytes_of(text):
    return list(text.encode("ascii"))


def fault_of(text):
    t = text if isinstance(text, list) else bytes_of(text)
    return enter_text(Draft(), t)


def full_text(length):
    """A text without fault of that many bytes, by a head's name and by weights told again and again."""
    rest = (length - 26) % 12
    text = f"rule a: => {'p' * (rest + 1)}\nrule b: => q\n"
    return bytes_of(text + "weigh a > b\n" * ((length - 26) // 12))


def random_text(source, atoms, laws, rules, longest):
    """A text without fault, of names that are not in the order of the lines."""
    heads = [sign + atom for atom in atoms for sign in ("", "~")]
    own = source.sample([f"{a}{b}" for a in "bdp" for b in ("", "-", "0", "a", "-x")], laws + rules)
    own = [name + "u" for name in own[:laws]] + own[laws:]
    literals = heads + own[laws:] + ["~" + name for name in own[laws:]]
    text = ""
    for place, name in enumerate(own):
        body = source.sample(literals, source.choice([0, 1, 1, 2, longest]))
        sort, arrow = ("law", "->") if place < laws else ("rule", "=>")
        head = source.choice(literals)
        row = f"{sort} {name}: {', '.join(body)}{' ' if body else ''}{arrow} {head}\n"
        if fault_of(text + row) is None:
            text = row + text if fault_of(row + text) is None and source.random() < 0.5 else text + row
    return text


def with_weights(source, text, count):
    """The text, and behind it that many weights at the most between its rules."""
    names = re.findall(r"^rule ([a-z0-9-]+):", text, re.MULTILINE)
    for _ in range(count):
        row = f"weigh {source.choice(names)} > {source.choice(names)}\n"
        if fault_of(text + row) is None:
            text = text + row
    return text


def clause(sort, name, body, head):
    arrow = "->" if sort == "law" else "=>"
    return f"{sort} {name}: {body}{' ' if body else ''}{arrow} {head}\n"


def long_chain():
    """Ten rules and 64 laws: a's head sets off a chain of laws, the last one first, that all the others deny."""
    text = clause("rule", "a", "", "y00")
    text += "".join(clause("rule", name, "", f"~y{45 + place}") for place, name in enumerate("bcdefghij"))
    text += "".join(clause("law", f"l{99 - place}", f"y{place:02}", f"y{place + 1:02}") for place in range(53))
    rows = [", ".join(f"y{place + one:02}" for one in range(6)) for place in range(11)]
    return text + "".join(clause("law", f"m{place:02}", body, "y53") for place, body in enumerate(rows))


def weight_rows(names):
    """All ways in which some of the rules may outweigh others, by weights that are told."""
    pairs = list(itertools.permutations(names, 2))
    bare = "".join(f"rule {name}: => {name}\n" for name in names)
    for chosen in itertools.product((False, True), repeat=len(pairs)):
        rows = "".join(f"weigh {one} > {two}\n" for (one, two), told in zip(pairs, chosen) if told)
        if fault_of(bare + rows) is None:
            yield rows


class PlainCase:
    """A text without fault: atoms, laws and rules in order, literals by their numbers."""

    def __init__(self, text):
        found = [CLAUSE.fullmatch(row) for row in text.splitlines() if not row.startswith("weigh ")]
        self.weights = [WEIGHT.fullmatch(row) for row in text.splitlines() if row.startswith("weigh ")]
        self.weights = [(m[1], m[2]) for m in self.weights]
        self.known = {}
        told = [(m[1], m[2], re.findall(r"~?[a-z][a-z0-9-]*", m[3]), m[4]) for m in found]
        names = {literal.lstrip("~") for row in told for literal in row[2] + [row[3]]}
        names |= {row[1] for row in told if row[0] == "rule"}
        self.atoms = sorted(names, key=lambda name: name.encode("ascii"))
        self.laws = self.clauses(told, "law")
        self.rules = self.clauses(told, "rule")

    def clauses(self, told, sort):
        rows = sorted((name.encode("ascii"), name, body, head) for s, name, body, head in told if s == sort)
        return [(name, [self.number(one) for one in body], self.number(head)) for _, name, body, head in rows]

    def number(self, literal):
        return 2 * self.atoms.index(literal.lstrip("~")) + (1 if literal.startswith("~") else 0)

    def literals(self):
        return range(2 * len(self.atoms))

    def sets(self):
        return range(2 ** len(self.rules))

    def step(self, kind, number, rules):
        """Body and literal of a step that the set allows; None if it can't be."""
        if kind == 1:
            return self.laws[number][1:] if number < len(self.laws) else None
        if kind > 2 or number >= len(self.rules) or not rules >> number & 1:
            return None
        return ([], self.number(self.rules[number][0])) if kind == 0 else self.rules[number][1:]

    def steps(self, rules):
        every = [(kind, number) for kind in range(3) for number in range(max(len(self.laws), len(self.rules)))]
        return [(one, *self.step(*one, rules)) for one in every if self.step(*one, rules) is not None]

    def follows(self, rules):
        """The least set of literals, as the common part of all closed sets."""
        common = set(self.literals())
        steps = self.steps(rules)
        for bits in range(2 ** len(self.literals())):
            if all(bits >> head & 1 for _, body, head in steps if all(bits >> one & 1 for one in body)):
                common &= {one for one in self.literals() if bits >> one & 1}
        return common

    def rounds(self, rules):
        """Least numbers such that each step's literal comes at most one behind the latest of its body."""
        rounds = {}
        changed = True
        while changed:
            changed = False
            for _, body, head in self.steps(rules):
                if all(one in rounds for one in body):
                    found = 1 + max([rounds[one] for one in body], default=0)
                    if found < rounds.get(head, found + 1):
                        rounds[head] = found
                        changed = True
        return rounds

    def told(self, rules, literal):
        """The derivation told, as a row; None if the literal doesn't follow."""
        rounds = self.rounds(rules)
        if literal not in rounds:
            return None
        needed = {}
        self.need(literal, rules, rounds, needed)
        order = sorted(needed, key=lambda one: (rounds[one], one))
        return [number for one in order for number in needed[one]]

    def need(self, literal, rules, rounds, needed):
        fits = [
            (one, body) for one, body, head in self.steps(rules)
            if head == literal and all(rounds.get(b, 999) < rounds[literal] for b in body)
        ]
        needed[literal], body = min(fits)
        for one in body:
            self.need(one, rules, rounds, needed)

    def is_derivation(self, rules, literal, row):
        """Word for word what "Derivations" asks of a derivation of the literal from the set."""
        steps = list(zip(row[::2], row[1::2]))
        if len(row) % 2 or not 1 <= len(steps) <= 256:
            return False
        read = [self.step(kind, number, rules) for kind, number in steps]
        if None in read:
            return False
        yielded = [head for _, head in read]
        for place, (body, head) in enumerate(read):
            if not set(body) <= set(yielded[:place]) or head in yielded[:place]:
                return False
            if place < len(read) - 1 and not any(head in later for later, _ in read[place + 1:]):
                return False
        return yielded[-1] == literal

    def derivation_fault(self, rules, literal, row):
        """Word for word what "The calls" says of derived's faults; None if it's a derivation."""
        steps = list(zip(row[::2], row[1::2]))
        if not 1 <= len(steps) <= 256:
            return [4, 0]
        yielded = []
        bodies = []
        for place, one in enumerate(steps):
            read = self.step(*one, rules)
            if read is None:
                return [1, place]
            if set(read[0]) - set(yielded):
                return [2, place]
            if read[1] in yielded:
                return [3, place]
            bodies.append(read[0])
            yielded.append(read[1])
        for place in range(len(steps) - 1):
            if yielded[place] not in sum(bodies[place + 1:], []):
                return [5, place]
        return None if yielded[-1] == literal else [6, len(steps) - 1]

    def members(self, rules):
        return [number for number in range(len(self.rules)) if rules >> number & 1]

    def once(self, *asked):
        """What a method answers, asked for the same only once: cases are not changed."""
        if asked not in self.known:
            self.known[asked] = asked[0](self, *asked[1:])
        return self.known[asked]

    def outweighs(self, one, other):
        """Whether there's a way from the one rule to the other by the weights that are told."""
        names = [rule[0] for rule in self.rules]
        at = {names[one]}
        for _ in names:
            at |= {lighter for heavier, lighter in self.weights if heavier in at}
        return one != other and names[other] in at

    def clashes(self, rules):
        follow = self.rounds(rules)
        return any(literal ^ 1 in follow for literal in follow)

    def strikes(self, rules, number):
        for part in self.sets():
            if part & ~rules or part >> number & 1:
                continue
            if any(self.once(PlainCase.outweighs, number, one) for one in self.members(part)):
                continue
            if not self.once(PlainCase.clashes, part) and self.once(PlainCase.clashes, part | 1 << number):
                return True
        return False

    def struck(self, rules):
        return {number for number in self.members(-1) if self.once(PlainCase.strikes, rules, number)}

    def defends(self, rules, number):
        struck = self.once(PlainCase.struck, rules)
        striking = [one for one in self.sets() if self.once(PlainCase.strikes, one, number)]
        return all(struck & set(self.members(one)) for one in striking)

    def ranking_fault(self, rules, ranks):
        """Word for word what "The calls" says of ranked's faults; None if it's a ranked set."""
        if rules not in self.sets():
            return [0, 0]
        members = self.members(rules)
        for number, rank in enumerate(ranks):
            if rank not in (range(1, 11) if number in members else [0]):
                return [1, number]
        for number in members:
            lesser = sum(1 << one for one in members if ranks[one] < ranks[number])
            if not self.once(PlainCase.defends, lesser, number):
                return [2, number]
        return None

    def ground_ranks(self):
        """Of each rule its rank, by the rounds; 0 of one that isn't in the ground."""
        ranks = [0] * len(self.rules)
        before, now, latest = None, 0, 0
        while now != before:
            before, latest = now, latest + 1
            now = sum(1 << one for one in self.members(-1) if self.once(PlainCase.defends, before, one))
            for one in self.members(now):
                ranks[one] = ranks[one] or latest
        return ranks

    def ground(self):
        return sum(1 << one for one, rank in enumerate(self.ground_ranks()) if rank)

    def stands(self, literal):
        return literal in self.once(PlainCase.rounds, self.once(PlainCase.ground))

    def is_doubt(self, literal, rules):
        """Word for word what "Reasons" says of a doubt."""
        if rules not in self.sets() or literal in self.once(PlainCase.rounds, rules):
            return False
        return all(rules >> one & 1 for one in self.members(-1) if self.once(PlainCase.defends, rules, one))

    def doubts(self, literal):
        return [rules for rules in self.sets() if self.is_doubt(literal, rules)]

    def rankings(self, rules):
        """All rows of ranks, none above the number of the set's rules, with which it's a ranked set."""
        highest = len(self.members(rules))
        choices = [range(1, highest + 1) if rules >> one & 1 else [0] for one in range(len(self.rules))]
        return [list(row) for row in itertools.product(*choices) if self.ranking_fault(rules, row) is None]

    def told_reason(self, literal):
        """The reason told, as a row, out of all sets and all their ranks; None if there's no reason."""
        fits = [rules for rules in self.sets() if literal in self.once(PlainCase.rounds, rules)]
        fits = [rules for rules in fits if self.once(PlainCase.rankings, rules)]
        if not fits:
            return None
        rules = min(fits, key=lambda one: (len(self.members(one)), one))
        ranks = [min(column) for column in zip(*self.once(PlainCase.rankings, rules))]
        return [rules] + ranks + self.told(rules, literal)

    def reason_fault(self, literal, rules, ranks, row):
        """Word for word what "The calls" says of reasoned's faults; None if it's a reason."""
        fault = self.ranking_fault(rules, ranks)
        if fault is not None:
            return [1] + fault
        fault = self.derivation_fault(rules, literal, row)
        return fault if fault is None else [2] + fault

    def derivations(self, rules):
        """All derivations from the set, of whatever literals, each built from its last step on: literal and row."""
        steps = self.steps(rules)
        found, waiting = [], [[one] for one in steps]
        while waiting:
            row = waiting.pop()
            flat = [number for one, _, _ in row for number in one]
            if self.is_derivation(rules, row[-1][2], flat):
                found.append((row[-1][2], flat))
            yielded = {head for _, _, head in row}
            needed = {one for _, body, _ in row for one in body} - yielded
            waiting += [[step] + row for step in steps if step[2] in needed and not yielded & set(step[1])]
        return found

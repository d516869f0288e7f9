"""Cases: a text's lines are entered one by one into a draft, and a draft without fault is numbered."""

from reasonhall.lines import OPPOSITE, Clause, atom_of, line_end, read_clause, read_weight, sign_table, words_of
from reasonhall.rulesets import set_of
from reasonhall.steps import LAW_HEAD, Step, literal_rounds

MOST_LAWS = 64
MOST_RULES = 10
MOST_ATOMS = 64

NO_FAULT = 0
NO_LINE = 1
NAME_AGAIN = 2
CLAUSE_AGAIN = 3
TOO_MANY = 4
NO_RULES_NAME = 5
CIRCLE = 6
LAWS_CLASH = 7


class Draft:
    """What the lines read so far have told, by names: dicts of laws, rules and atoms, and for each rule
    a dict of those that it outweighs, by going on too."""

    def __init__(self):
        self.laws = {}
        self.rules = {}
        self.atoms = {}
        self.outweighed = {}


class Case:
    """A case by numbers: its atoms in order, its laws and rules in order (their literals as numbers), and
    for each rule the literal that its name is and the set of rules that it outweighs."""

    def __init__(self, atoms, laws, rules, names, outweighed):
        self.atoms = atoms
        self.laws = laws
        self.rules = rules
        self.names = names
        self.outweighed = outweighed


def stands_before(clause, kin):
    """Whether a clause with the same body, as a row, and the same head is among its kin."""
    for other in kin.values():
        if other.body == clause.body and other.head == clause.head:
            return True
    return False


def clause_atoms(clause):
    return [atom_of(literal) for literal in clause.body] + [atom_of(clause.head)]


def clause_fault(draft, clause, kin, most, atoms):
    """The fault that a law or a rule may have: kin are those of its sort before it, most of which there
    may be, atoms those that it tells of."""
    if clause.name in draft.laws or clause.name in draft.rules:
        return NAME_AGAIN
    if len(set(clause.body)) < len(clause.body) or stands_before(clause, kin):
        return CLAUSE_AGAIN
    if len(kin) >= most or len(set(list(draft.atoms) + atoms)) > MOST_ATOMS:
        return TOO_MANY
    return NO_FAULT


def keep_atoms(draft, atoms):
    for atom in atoms:
        draft.atoms[atom] = True


def laws_clash(laws):
    """Whether an atom and its opposite follow from the laws alone."""
    rounds = literal_rounds([Step(LAW_HEAD, 0, law.body, law.head) for law in laws])
    return any([OPPOSITE + literal in rounds for literal in rounds])


def enter_law(draft, law):
    """Enter a law if it has no fault; its fault is given back."""
    if law is None:
        return NO_LINE
    atoms = clause_atoms(law)
    fault = clause_fault(draft, law, draft.laws, MOST_LAWS, atoms)
    if fault != NO_FAULT:
        return fault
    if laws_clash(list(draft.laws.values()) + [law]):
        return LAWS_CLASH
    draft.laws[law.name] = law
    keep_atoms(draft, atoms)
    return NO_FAULT


def enter_rule(draft, rule):
    """Enter a rule if it has no fault; its fault is given back."""
    if rule is None:
        return NO_LINE
    atoms = clause_atoms(rule) + [rule.name]
    fault = clause_fault(draft, rule, draft.rules, MOST_RULES, atoms)
    if fault != NO_FAULT:
        return fault
    draft.rules[rule.name] = rule
    draft.outweighed[rule.name] = {}
    keep_atoms(draft, atoms)
    return NO_FAULT


def weight_fault(draft, weight):
    if weight.heavier not in draft.rules or weight.lighter not in draft.rules:
        return NO_RULES_NAME
    # What a rule outweighs is kept with all that follows by going on, so every circle shows here.
    if weight.heavier == weight.lighter or weight.heavier in draft.outweighed[weight.lighter]:
        return CIRCLE
    return NO_FAULT


def enter_weight(draft, weight):
    """Enter a weight, and those that follow with it, if it has no fault; its fault is given back."""
    if weight is None:
        return NO_LINE
    fault = weight_fault(draft, weight)
    if fault != NO_FAULT:
        return fault
    below = [weight.lighter] + list(draft.outweighed[weight.lighter])
    for name in draft.rules:
        if name == weight.heavier or weight.heavier in draft.outweighed[name]:
            for other in below:
                draft.outweighed[name][other] = True
    return NO_FAULT


def enter_line(draft, words):
    """Enter what a line says if it has no fault; its fault is given back."""
    if words[0] == "law":
        return enter_law(draft, read_clause(words, "->"))
    if words[0] == "rule":
        return enter_rule(draft, read_clause(words, "=>"))
    if words[0] == "weigh":
        return enter_weight(draft, read_weight(words))
    return NO_LINE


def enter_text(draft, t):
    """Enter the lines of a text up to its fault, whose kind and place are given back; None if it has none."""
    table = sign_table()
    place = 0
    while place < len(t):
        end = line_end(t, place)
        if end == len(t):
            return (NO_LINE, len(t))
        fault = enter_line(draft, words_of(t[place:end], table))
        if fault != NO_FAULT:
            return (fault, place)
        place = end + 1
    return None


def literal_numbers(atoms):
    """The numbers of all literals of the atoms, which are in order."""
    numbers = {}
    for place, atom in enumerate(atoms):
        numbers[atom] = 2 * place
        numbers[OPPOSITE + atom] = 2 * place + 1
    return numbers


def numbered_clause(clause, numbers):
    return Clause(clause.name, tuple([numbers[literal] for literal in clause.body]), numbers[clause.head])


def numbered_rules(names, order):
    """The set of the rules with these names, which are numbered by the order."""
    return set_of([order.index(name) for name in names])


def numbered_case(draft):
    # Texts of these signs are in order just as their bytes are, a beginning first.
    atoms = sorted(draft.atoms)
    numbers = literal_numbers(atoms)
    laws = [numbered_clause(draft.laws[name], numbers) for name in sorted(draft.laws)]
    order = sorted(draft.rules)
    rules = [numbered_clause(draft.rules[name], numbers) for name in order]
    names = [numbers[name] for name in order]
    outweighed = [numbered_rules(draft.outweighed[name], order) for name in order]
    return Case(atoms, laws, rules, names, outweighed)


def read_case(t):
    """The case that the text tells; None if it is no case's text."""
    draft = Draft()
    if enter_text(draft, t) is not None:
        return None
    return numbered_case(draft)

"""The lines of a text: where they end, their words, and what a line of each form says."""

LINE_FEED = 10
LETTERS = "abcdefghijklmnopqrstuvwxyz"
NAME_SIGNS = "abcdefghijklmnopqrstuvwxyz0123456789-"
LINE_SIGNS = "abcdefghijklmnopqrstuvwxyz0123456789- ~:,=>"
NO_SIGN = "?"
OPPOSITE = "~"
MOST_NAME_SIGNS = 15
MOST_BODY = 6
# A law or rule without a body has four words: its sort, its name, the arrow, its head.
BODILESS_WORDS = 4


class Clause:
    """A law or a rule: its name, its body (a tuple of literals) and its head."""

    def __init__(self, name, body, head):
        self.name = name
        self.body = body
        self.head = head


class Weight:
    """The names of two rules, of which the first outweighs the second."""

    def __init__(self, heavier, lighter):
        self.heavier = heavier
        self.lighter = lighter


def sign_table():
    """The signs that may stand in a line, by their bytes."""
    table = {}
    for sign in LINE_SIGNS:
        table[ord(sign)] = sign
    return table


def line_end(t, place):
    """Where the line that begins at the place has its line feed; the text's length if it has none."""
    end = place
    while end < len(t) and t[end] != LINE_FEED:
        end = end + 1
    return end


def words_of(line, table):
    """The words of a line of bytes, as texts."""
    # A byte that no line has becomes a sign that no word has, so its word is refused like any wrong word;
    # a blank too many makes an empty word, which is refused as well.
    signs = [table.get(byte, NO_SIGN) for byte in line]
    return "".join(signs).split(" ")


def is_name(word):
    if len(word) == 0 or len(word) > MOST_NAME_SIGNS or word[0] not in LETTERS:
        return False
    return all([sign in NAME_SIGNS for sign in word])


def is_literal(word):
    if word.startswith(OPPOSITE):
        return is_name(word[1:])
    return is_name(word)


def atom_of(literal):
    if literal.startswith(OPPOSITE):
        return literal[1:]
    return literal


def read_body(words):
    """The literals of a body, a tuple; None if its words are not those of a body."""
    literals = []
    for place, word in enumerate(words):
        literal = word
        if place < len(words) - 1:
            if not word.endswith(","):
                return None
            literal = word[:-1]
        if not is_literal(literal):
            return None
        literals.append(literal)
    return tuple(literals)


def read_clause(words, arrow):
    """The law or rule that the words tell with that arrow; None if they tell none."""
    if len(words) < BODILESS_WORDS or len(words) > BODILESS_WORDS + MOST_BODY:
        return None
    label = words[1]
    if not label.endswith(":") or not is_name(label[:-1]):
        return None
    if words[-2] != arrow or not is_literal(words[-1]):
        return None
    body = read_body(words[2:-2])
    if body is None:
        return None
    return Clause(label[:-1], body, words[-1])


def read_weight(words):
    """The weight that the words tell; None if they tell none."""
    if len(words) != 4 or words[2] != ">":
        return None
    if not is_name(words[1]) or not is_name(words[3]):
        return None
    return Weight(words[1], words[3])

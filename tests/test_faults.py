"""The fault of a text, kinds 1 to 7: what has it, what just hasn't, and that each is refused with -6."""

import unittest

from reasonhall.desk import derive, round_of
from tests.helper import bytes_of, fault_of


def names(count, first="a"):
    return [f"{first}{number:03}" for number in range(count)]


def laws(count):
    return "".join(f"law {name}: q{place % 8} -> r{place // 8}\n" for place, name in enumerate(names(count)))


def rules(count):
    return "".join(f"rule {name}: => p\n" if not place else f"rule {name}: a{place - 1:03} => p\n"
                   for place, name in enumerate(names(count)))


def atoms(count):
    """Laws of seven atoms each, as far as they go; none without a body, so that nothing follows."""
    text = ""
    every = names(count, "x")
    for place in range(0, count, 7):
        some = every[place:place + 7]
        text += f"law {some[0]}: {', '.join(some[1:] or some)} -> {some[0]}\n"
    return text


class Faults(unittest.TestCase):
    def assert_fault(self, text, kind, place):
        t = text if isinstance(text, list) else bytes_of(text)
        self.assertEqual(fault_of(t), (kind, place), text)
        self.assertEqual(derive(0, 0, t), [-6], text)
        self.assertEqual(round_of(0, 0, t), [-6], text)

    def assert_fine(self, text):
        self.assertIsNone(fault_of(text), text)
        self.assertNotEqual(derive(0, 0, bytes_of(text)), [-6], text)
        self.assertNotEqual(round_of(0, 0, bytes_of(text)), [-6], text)

    def assert_no_line(self, row):
        """Alone and behind a line that's right."""
        self.assert_fault(row + "\n", 1, 0)
        before = "rule zz: => zz\nrule zy: => zy\n"
        self.assert_fault(before + row + "\nlaw\n", 1, len(before))

    def test_lines_that_are_right(self):
        for row in ["law a: -> p", "law a: -> ~p", "law a: p -> q", "law a: ~p, q -> ~q", "rule a: => p",
                    "rule a: p, ~p => q", "rule law: rule, weigh => ~law", "law a-: b-, c9- -> d--",
                    "rule a: ~a => ~a", "law a: a -> a", "rule a: p, q, r, s, u, v => w"]:
            self.assert_fine(row + "\n")
        self.assert_fine("rule a: => p\nrule b: q => p\nweigh a > b\n")

    def test_kind_1_not_such_a_line(self):
        for row in ["", " ", "law", "law a:", "law a: ->", "law a: p", "law a: p q", "law a: -> p q", "lawa: -> p",
                    "law a -> p", "law ab -> p", "rule ab c => p", "law ab, -> p", "law a: bc d -> p",
                    "law a : -> p", "law a:-> p", "law a: ->p", "law a:: -> p", "law : -> p",
                    "law a:  -> p", " law a: -> p", "law a: -> p ", "law  a: -> p", "law a: ->  p", "law a: => p",
                    "rule a: -> p", "rule a: >= p", "rule a: = p", "Law a: -> p", "LAW a: -> p", "fact a: -> p",
                    "law a: p q -> r", "law a: p,q -> r", "law a: p , q -> r", "law a: p,, q -> r",
                    "law a: p, -> r", "law a: , -> r", "law a: p, q, -> r", "law a: p; q -> r", "law a: -> p,",
                    "law a: -> p.", "law a: p -> q -> r", "law a: -> -> p", "law a: -> ~", "law a: -> ~~p",
                    "law a: -> p~", "law a: -> -p", "law a: ~-p -> q", "law a: -> P", "law a: -> p_q",
                    "law a: 1p -> q", "law 1: -> p", "law -a: -> p", "law A: -> p", "law ~a: -> p", "law aB: -> p",
                    "law a, b: -> p", "rule a:", "rule a: =>", "rule a: p", "rule a => p", "rule ~a: => p",
                    "weigh", "weigh zz", "weigh zz >", "weigh zz > zy >", "weigh zz > zy > zz", "weigh zz zy",
                    "weigh zz < zy", "weigh zz >> zy", "weigh zz => zy", "weigh zz: > zy", "weigh zz>zy",
                    "weigh ~zz > zy", "weigh zz > ~zy", "weigh  zz > zy", "weigh zz > zy ", "weigh zz,> zy",
                    "weigh zz  zy", "weigh  > zy", "weigh zz > ", "law a: -> p\r", "law a:\t-> p", "law a: -> ?"]:
            self.assert_no_line(row)

    def test_kind_1_every_byte_that_no_name_has(self):
        allowed = bytes_of("abcdefghijklmnopqrstuvwxyz0123456789-")
        for byte in range(256):
            t = bytes_of("law a: -> p") + [byte] + bytes_of("q\n")
            if byte in allowed:
                self.assertIsNone(fault_of(t), byte)
            else:
                # A line feed ends the first line, and what's behind it is no line.
                self.assertEqual(fault_of(t), (1, 12 if byte == 10 else 0), byte)
                self.assertEqual(derive(0, 0, t), [-6], byte)

    def test_kind_1_every_byte_that_begins_no_literal(self):
        allowed = bytes_of("abcdefghijklmnopqrstuvwxyz~")
        for byte in range(256):
            t = bytes_of("law a: -> ") + [byte] + bytes_of("q\n")
            self.assertEqual(fault_of(t), None if byte in allowed else (1, 0), byte)

    def test_kind_1_a_name_of_15_and_of_16_bytes(self):
        for row in ["law {}: -> p", "law a: {} -> p", "law a: q, ~{}, r -> p", "law a: -> {}", "rule {}: => p",
                    "rule a: ~{} => p", "rule a: => ~{}"]:
            self.assert_fine(row.format("n" * 15) + "\n")
            self.assert_no_line(row.format("n" * 16))
        long = "n" * 15
        self.assert_fine(f"rule {long}: => p\nrule b: => q\nweigh {long} > b\n")
        self.assert_no_line(f"weigh {long}n > zz")
        self.assert_no_line(f"weigh zz > {long}n")

    def test_kind_1_a_body_of_6_and_of_7_literals(self):
        self.assert_fine("law a: b, c, ~d, e, f, g -> h\n")
        self.assert_fine("rule a: b, c, ~d, e, f, g => h\n")
        self.assert_no_line("law a: b, c, ~d, e, f, g, h -> i")
        self.assert_no_line("rule a: b, c, ~d, e, f, g, h => i")

    def test_kind_1_a_text_that_ends_within_a_line(self):
        whole = "law a: -> p\nrule b: p => q\n"
        for length in range(len(whole) + 1):
            if length in (0, 12, len(whole)):
                self.assert_fine(whole[:length])
            else:
                self.assert_fault(whole[:length], 1, length)
        self.assert_fault("law a: -> p\nlaw a: -> q\nlaw", 2, 12)

    def test_kind_2_a_name_told_before(self):
        for first in ["law a: -> p\n", "rule a: => p\n"]:
            for second in ["law a: r -> q\n", "rule a: r => q\n"]:
                self.assert_fault(first + second, 2, len(first))
                self.assert_fine(first + second.replace(" a:", " b:"))
        self.assert_fault("law a: -> p\nlaw b: -> q\nlaw a: -> r\n", 2, 24)
        self.assert_fine("law a: -> b\nrule b: a => a\nlaw c: b -> a\n")

    def test_kind_3_a_literal_twice_in_the_body(self):
        for body in ["p, p", "~p, ~p", "p, q, p", "q, r, s, u, p, p"]:
            self.assert_fault(f"law a: {body} -> w\n", 3, 0)
            self.assert_fault(f"law a: -> w\nrule b: {body} => w\n", 3, 12)
        self.assert_fine("law a: p, ~p -> w\nrule b: p, ~p => p\n")

    def test_kind_3_the_same_body_and_head_before(self):
        for body in ["", " p", " p, ~q"]:
            law, rule = f"law a:{body} -> w\n", f"rule b:{body} => w\n"
            self.assert_fine(law + rule)
            self.assert_fine(rule + law)
            self.assert_fault(law + rule + law.replace("a:", "c:"), 3, len(law + rule))
            self.assert_fault(law + rule + rule.replace("b:", "c:"), 3, len(law + rule))
            self.assert_fine(law + rule + law.replace("a:", "c:").replace("> w", "> x"))
            self.assert_fine(law + rule + rule.replace("b:", "c:").replace("=> w", "=> ~w"))
        self.assert_fine("law a: p, q -> w\nlaw b: q, p -> w\nlaw c: p -> w\nlaw d: p, ~q -> w\n")
        self.assert_fine("rule a: p, q => w\nrule b: q, p => w\nrule c: p => w\nrule d: p, ~q => w\n")

    def test_kind_4_the_65th_law(self):
        self.assert_fine(laws(64))
        self.assert_fault(laws(65), 4, len(laws(64)))
        self.assert_fine(laws(64) + "rule r: => p\n")

    def test_kind_4_the_11th_rule(self):
        self.assert_fine(rules(10))
        self.assert_fault(rules(11), 4, len(rules(10)))
        self.assert_fine(rules(10) + "law r: -> p\n")

    def test_kind_4_the_65th_atom(self):
        self.assert_fine(atoms(64))
        self.assert_fault(atoms(65), 4, len(atoms(63)))
        full = atoms(64)
        for row in ["law a: -> y", "law a: -> ~y", "law a: y -> x000", "law a: x001, ~y -> x000", "rule x001: => y",
                    "rule y: => x000", "rule x001: ~y => x000"]:
            self.assert_fault(full + row + "\n", 4, len(full))
            self.assert_fine(full + row.replace("rule y", "rule x062").replace("y", "x063") + "\n")
            self.assert_fine(atoms(63) + row + "\n")
        self.assert_fault(atoms(63) + "rule y: => z\n", 4, len(atoms(63)))
        self.assert_fine(atoms(62) + "rule y: => z\n")

    def test_kind_5_a_name_that_is_no_rules_before(self):
        both = "rule a: => p\nrule b: => q\nlaw c: -> p\n"
        self.assert_fine(both + "weigh a > b\n")
        for row in ["weigh a > c\n", "weigh c > a\n", "weigh a > p\n", "weigh p > a\n", "weigh d > d\n"]:
            self.assert_fault(both + row, 5, len(both))
        self.assert_fault("rule a: => p\nweigh a > b\nrule b: => q\n", 5, 13)
        self.assert_fault("rule a: => p\nweigh b > a\nrule b: => q\n", 5, 13)

    def test_a_weight_told_again_or_that_follows_already(self):
        three = "rule a: => p\nrule b: => q\nrule c: => r\n"
        self.assert_fine(three + "weigh a > b\nweigh a > b\n")
        self.assert_fine(three + "weigh a > b\nweigh b > c\nweigh a > c\nweigh a > c\n")
        self.assert_fine(three + "weigh a > c\nweigh b > c\nweigh a > b\n")

    def test_kind_6_a_circle(self):
        some = "rule a: => p\nrule b: => q\nrule c: => r\nrule d: => s\n"
        self.assert_fault(some + "weigh a > a\n", 6, len(some))
        for order in [("ab", "bc", "cd"), ("cd", "bc", "ab"), ("ab", "cd", "bc"), ("bc", "ab", "cd")]:
            told = some + "".join(f"weigh {pair[0]} > {pair[1]}\n" for pair in order)
            self.assert_fine(told)
            for row in ["ba", "ca", "cb", "da", "db", "dc", "aa", "dd"]:
                self.assert_fault(told + f"weigh {row[0]} > {row[1]}\nlaw\n", 6, len(told))
            for row in ["ab", "ac", "ad", "bc", "bd", "cd"]:
                self.assert_fine(told + f"weigh {row[0]} > {row[1]}\n")

    def test_kind_6_a_circle_of_all_ten(self):
        told = rules(10) + "".join(f"weigh a00{n} > a00{n + 1}\n" for n in reversed(range(9)))
        self.assert_fine(told)
        self.assert_fault(told + "weigh a009 > a000\n", 6, len(told))

    def test_kind_7_the_laws_alone_clash(self):
        self.assert_fault("law a: -> p\nlaw b: -> ~p\n", 7, 12)
        self.assert_fault("law a: -> ~p\nlaw b: -> p\n", 7, 13)
        self.assert_fault("law a: -> p\nlaw b: p -> ~p\n", 7, 12)
        self.assert_fine("law b: p -> ~p\nlaw c: ~p -> p\n")
        split = "law a: p, q -> r\nlaw b: q, p -> ~r\nlaw c: -> p\n"
        self.assert_fine(split)
        self.assert_fault(split + "law d: -> q\n", 7, len(split))
        self.assert_fine(split + "law d: -> ~q\n")
        chain = "".join(f"law {a}: {a} -> {b}\n" for a, b in zip("lkjihgfedcb", "mlkjihgfedc")) + "law m: m -> ~b\n"
        self.assert_fine(chain)
        self.assert_fault(chain + "law a: -> b\n", 7, len(chain))

    def test_kind_7_is_of_laws_alone(self):
        self.assert_fine("law a: -> p\nrule b: => ~p\n")
        self.assert_fine("rule a: => p\nrule b: => ~p\nlaw c: a -> ~a\nlaw d: ~p -> p\n")
        self.assert_fine("rule b: => ~b\nlaw a: -> ~b\n")

    def test_of_one_line_the_first_reason_told(self):
        full = laws(64)
        self.assert_fault("law a: -> p\nlaw a: q, q -> p p\n", 1, 12)
        self.assert_fault("law a: -> p\nlaw a: q, q -> p\n", 2, 12)
        self.assert_fault(full + "law a000: q, q -> ~p\n", 2, len(full))
        self.assert_fault(full + "law b: q, q -> ~p\n", 3, len(full))
        self.assert_fault(full + "law b: q0 -> r0\n", 3, len(full))
        clash = full.replace("law a000: q0 -> r0", "law a000: -> p")
        self.assert_fault(clash + "law b: -> ~p\n", 4, len(clash))
        self.assert_fault("rule a: => p\nweigh b > b\n", 5, 13)

    def test_the_first_line_is_told(self):
        self.assert_fault("law a: -> p\nlaw b: -> ~p\nno line\n", 7, 12)
        self.assert_fault("no line\nlaw a: -> p\nlaw b: -> ~p\n", 1, 0)


if __name__ == "__main__":
    unittest.main()

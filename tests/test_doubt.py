"""doubt: which set it tells, what stands and so has none, where it refuses; every literal has a reason or a doubt."""

import itertools
import random
import time
import unittest

from reasonhall.desk import doubt, doubted, reason
from tests.helper import (
    CHAIN, WEIGHED_CHAIN, PlainCase, bytes_of, clause, fault_of, full_text, long_chain, random_text, with_weights,
)

HIGHEST = 4294967295
YES = [0, 1]
NONE_THERE = [-3]


class DoubtCase(unittest.TestCase):
    def assert_told(self, text, rules, *literals):
        """That this set, given by its rules' names, is told of each of the literals, given by theirs."""
        case = PlainCase(text)
        names = [rule[0] for rule in case.rules]
        chosen = sum(1 << names.index(name) for name in rules)
        for literal in literals:
            self.assertEqual(doubt(case.number(literal), bytes_of(text)), [0, chosen], (text, literal))

    def assert_none(self, text, *literals):
        for literal in literals:
            self.assertEqual(doubt(PlainCase(text).number(literal), bytes_of(text)), NONE_THERE, (text, literal))


class TheSetTold(DoubtCase):
    def test_rules_that_nothing_strikes_are_all_in_it(self):
        text = "rule a: => p\nrule b: => q\n"
        self.assert_told(text, "ab", "~p", "~q", "~a", "~b")
        self.assert_none(text, "p", "q", "a", "b")
        text = "".join(f"rule {name}: => h{name}\n" for name in "abcdefghij")
        self.assert_told(text, "abcdefghij", "~ha", "~j")

    def test_what_follows_from_no_rules(self):
        text = "rule a: p => q\nlaw x: r -> s\n"
        self.assert_told(text, "a", "p", "q", "r", "s", "~p", "~q", "~r", "~s", "~a")
        self.assert_none(text, "a")
        # What would yield itself.
        text = "rule a: p => p\nlaw x: q -> q\n"
        self.assert_told(text, "a", "p", "q", "~p", "~q", "~a")
        self.assert_told("law x: p -> p\nlaw y: q -> ~q\n", "", "p", "~p", "q", "~q")

    def test_what_follows_from_some_rules_but_does_not_stand(self):
        text = "rule a: => p\nrule b: => ~p\nrule c: p => q\nrule d: => r\n"
        self.assert_told(text, "cd", "p", "~p", "q", "~q", "a", "b", "~r", "~c", "~d")
        self.assert_none(text, "r", "c", "d")
        self.assert_told(CHAIN, "", "ha", "hb", "hj", "a", "b", "j", "~b", "~j")

    def test_what_falls(self):
        text = "rule a: => p\nrule b: => ~p\nweigh a > b\n"
        self.assert_told(text, "a", "~p", "b", "~a", "~b")
        self.assert_none(text, "p", "a")
        # By laws alone.
        text = "rule a: => p\nlaw x: -> ~p\nlaw y: -> q\nrule b: => r\n"
        self.assert_told(text, "b", "p", "a", "~q", "~r")
        self.assert_none(text, "~p", "q", "r", "b")
        # By a rule's name.
        text = "rule a: => p\nrule b: => ~a\nweigh b > a\n"
        self.assert_told(text, "b", "p", "a", "~b")
        self.assert_none(text, "~a", "b")

    def test_rules_of_higher_ranks(self):
        self.assert_told(WEIGHED_CHAIN, "acegi", "hb", "hd", "hf", "hh", "hj", "b", "j", "~a", "~i", "~ha")
        self.assert_none(WEIGHED_CHAIN, "ha", "hc", "he", "hg", "hi", "a", "i", "~b", "~j")
        text = "".join(f"rule {name}: => h{name}\n" for name in "edcba")
        text += "".join(f"law x{one}: {one} -> ~{two}\nweigh {one} > {two}\n" for one, two in zip("edcb", "dcba"))
        self.assert_told(text, "ace", "hb", "hd", "b", "d", "~c")
        self.assert_none(text, "ha", "hc", "he", "~b", "~d")

    def test_not_what_a_rule_defends_itself(self):
        # a and b strike each other, so each defends itself; c is struck by b alone.
        text = "rule a: => p\nrule b: => ~p\nrule c: => q\nlaw x: b -> ~c\nweigh b > c\n"
        self.assert_told(text, "", "p", "~p", "q", "c", "~c", "a", "b")
        self.assert_told(text + "weigh a > b\n", "ac", "~p", "~q", "b")
        self.assert_none(text + "weigh a > b\n", "p", "q", "c")

    def test_not_what_every_preferred_set_has(self):
        # Of a and b one may be held, and from each q follows; c is struck by both d and e, which strike each other.
        text = "rule a: => p\nrule b: => ~p\nlaw x: a -> q\nlaw y: b -> q\n"
        self.assert_told(text, "", "q", "~q")
        text = "rule c: => r\nrule d: => p\nrule e: => ~p\nrule f: => s\nlaw x: c -> ~f\nlaw y: d -> ~c\n"
        text += "law z: e -> ~c\nweigh c > f\nweigh d > c\nweigh e > c\n"
        self.assert_told(text, "", "f", "s", "~c", "c", "d")

    def test_a_rule_that_the_empty_set_strikes(self):
        text = "rule x: => ~x\n"
        self.assert_told(text, "", "x", "~x")
        # x would strike c, if it weren't struck itself.
        text = "rule c: => z\nrule x: => y\nlaw u: y -> ~x\nlaw v: x -> ~c\n"
        self.assert_told(text, "c", "x", "~x", "y", "~c")
        self.assert_none(text, "c", "z")

    def test_numbers_go_by_names_not_by_lines(self):
        text = "rule b: => p\nrule a-b: => ~p\nrule a: => q\nweigh b > a-b\n"
        self.assertEqual(doubt(PlainCase(text).number("~p"), bytes_of(text)), [0, 5])
        self.assertEqual(doubt(PlainCase(text).number("~p"), bytes_of(text[:-14])), [0, 1])

    def test_rules_that_strike_only_together(self):
        # Each two of the rules strike the third; no two of them clash.
        text = "rule a: => p\nrule b: => q\nrule c: => r\nlaw x: p, q -> ~r\n"
        self.assert_told(text, "", "p", "q", "r", "~r", "a")
        self.assert_told(text + "weigh a > c\nweigh b > c\n", "ab", "r", "c", "~p")
        self.assert_none(text + "weigh a > c\nweigh b > c\n", "p", "q", "~r")


class WhatStands(DoubtCase):
    def test_what_follows_from_the_laws_alone(self):
        self.assert_none("law x: -> p\n", "p")
        self.assert_none("law x: -> p\nlaw y: p -> ~q\n", "p", "~q")
        text = "law x: -> p\nlaw y: -> a\nrule a: => q\nrule b: => ~q\nrule c: => ~p\n"
        # However the rules strike each other, and though rule a isn't in the ground.
        self.assert_none(text, "p", "a")
        self.assert_told(text, "", "~p", "~a", "q", "~q", "b", "c")

    def test_what_follows_by_several_steps(self):
        text = "rule a: => p\nrule b: p => q\nrule c: q => r\nlaw x: r, a -> ~s\n"
        self.assert_none(text, "p", "q", "r", "~s", "a", "b", "c")
        self.assert_told(text, "abc", "s", "~p", "~q", "~r")

    def test_by_whichever_rule_of_the_ground(self):
        # b strikes a; p follows from a, and from c and d.
        text = "rule a: => p\nrule b: => ~a\nrule c: => q\nrule d: q => p\nweigh b > a\n"
        self.assert_none(text, "p")
        self.assert_told(text, "bcd", "a", "~p")
        self.assert_told("rule a: => p\nrule b: => ~a\nrule c: => q\nweigh b > a\n", "bc", "p")


class Weights(DoubtCase):
    def test_they_turn_the_answer(self):
        text = "rule a: => p\nrule b: => ~p\n"
        self.assert_told(text, "", "p", "~p")
        self.assert_none(text + "weigh a > b\n", "p")
        self.assert_told(text + "weigh a > b\n", "a", "~p")
        self.assert_none(text + "weigh b > a\n", "~p")
        self.assert_told(text + "weigh b > a\n", "b", "p")

    def test_by_going_on(self):
        text = "rule a: => p\nrule b: => q\nrule c: => ~p\n"
        for rows in ("", "weigh a > b\n", "weigh b > c\n", "weigh a > b\nweigh c > b\n"):
            self.assert_told(text + rows, "b", "p", "~p")
        for rows in ("weigh a > b\nweigh b > c\n", "weigh b > c\nweigh a > b\n", "weigh a > c\n"):
            self.assert_none(text + rows, "p")
            self.assert_told(text + rows, "ab", "~p")
        for rows in ("weigh c > b\nweigh b > a\n", "weigh c > a\n"):
            self.assert_none(text + rows, "~p")
            self.assert_told(text + rows, "bc", "p")

    def test_one_more_weight_of_the_chain(self):
        # Without the first weight a and b strike each other, and nothing comes into the ground.
        rows = [f"weigh {one} > {two}\n" for one, two in zip("bcdefghi", "cdefghij")]
        self.assert_told(CHAIN + "".join(rows), "", "hc", "hj", "hb", "~a")
        self.assert_none(CHAIN + "".join(rows) + "weigh a > b\n", "hc")


class Refused(DoubtCase):
    def test_the_empty_case(self):
        for literal in (0, 1, 2, HIGHEST):
            self.assertEqual(doubt(literal, []), [-1])

    def test_a_case_without_rules_and_one_without_laws(self):
        self.assertEqual([doubt(literal, bytes_of("law a: -> p\n")) for literal in range(3)], [[-3], [0, 0], [-1]])
        self.assertEqual([doubt(literal, bytes_of("law a: p -> p\n")) for literal in range(3)], [[0, 0], [0, 0], [-1]])
        answers = [doubt(literal, bytes_of("rule a: => p\n")) for literal in range(5)]
        self.assertEqual(answers, [[-3], [0, 1], [-3], [0, 1], [-1]])

    def test_a_text_of_8192_bytes_and_of_more(self):
        self.assertEqual(doubt(0, full_text(8192)), [-3])
        self.assertEqual(doubt(1, full_text(8192)), [0, 3])
        self.assertEqual(doubt(8, full_text(8192)), [-1])
        for length in (8193, 8194, 8300):
            for literal in (0, 1, 8, HIGHEST):
                self.assertEqual(doubt(literal, full_text(length)), [-1])

    def test_a_text_too_long_goes_before_no_case(self):
        for t in ([10] * 8193, [0] * 8300, full_text(8192) + [119]):
            for literal in (0, HIGHEST):
                self.assertEqual(doubt(literal, t), [-1])

    def test_no_case_goes_before_the_literal(self):
        for t in ([10], [255], bytes_of("rule a: => p"), bytes_of("law a: -> p\nlaw b: -> ~p\n"),
                  bytes_of("rule a: => p\nweigh a > a\n"), full_text(8191) + [119]):
            for literal in (0, 1, 4, HIGHEST):
                self.assertEqual(doubt(literal, t), [-6])

    def test_a_literal_that_there_is_not(self):
        t = bytes_of("rule a: => p\nrule b: => ~p\nlaw x: -> q\n")
        # Atoms a, b, p, q; all but q are doubted.
        self.assertEqual([doubt(literal, t)[0] for literal in range(10)], [0, 0, 0, 0, 0, 0, -3, 0, -1, -1])
        for literal in (8, 9, 127, 128, HIGHEST):
            self.assertEqual(doubt(literal, t), [-1])
        t = bytes_of(long_chain())
        self.assertEqual([doubt(literal, t) for literal in (127, 128, 129)], [[0, 0], [-1], [-1]])


class Size(DoubtCase):
    def quick(self, literal, text):
        start = time.perf_counter()
        answer = doubt(PlainCase(text).number(literal), bytes_of(text))
        self.assertLess(time.perf_counter() - start, 4)
        return answer

    def test_ten_rules_and_64_laws(self):
        text = long_chain()
        case = PlainCase(text)
        self.assertEqual((len(case.laws), len(case.rules), len(case.atoms)), (64, 10, 64))
        self.assertEqual(self.quick("y53", text), [0, 0])
        weighed = text + "".join(f"weigh a > {name}\n" for name in "bcdefghij")
        self.assertIsNone(fault_of(weighed))
        self.assertEqual(self.quick("y53", weighed), [-3])
        self.assertEqual(self.quick("~y53", weighed), [0, 1])
        weighed = text + "".join(f"weigh {name} > a\n" for name in "bcdefghij")
        self.assertEqual(self.quick("y53", weighed), [0, 1022])
        self.assertEqual(self.quick("~y53", weighed), [-3])

    def test_ten_rules_that_are_struck_by_many(self):
        text = "".join(f"rule {name}: => h{name}\n" for name in "abcdefghij")
        rows = [(six[:5], six[5]) for six in itertools.combinations("abcdefghij", 6)]
        for place, (body, head) in enumerate(rows[:64]):
            text += clause("law", f"l{place:02}", ", ".join("h" + name for name in body), f"~h{head}")
        self.assertIsNone(fault_of(text))
        self.assertEqual(self.quick("ha", text), [0, 0])
        weights = "".join(f"weigh {one} > {two}\n" for one, two in zip("abcdefghi", "bcdefghij"))
        self.assertEqual(self.quick("ha", text + weights), [-3])
        self.assertEqual(self.quick("hf", text + weights), [0, 31])


class AgainstTheSecondReading(DoubtCase):
    def check(self, text):
        """All literals of the text; how many are doubted."""
        case, t = PlainCase(text), bytes_of(text)
        ground = case.ground()
        count = 0
        for literal in case.literals():
            expected = NONE_THERE if case.stands(literal) else [0, ground]
            self.assertEqual(doubt(literal, t), expected, (text, literal))
            count += not case.stands(literal)
        return count, ground

    def summary(self, texts):
        """How many literals are doubted; and how many of the cases have a ground of some rules but not all."""
        told = [self.check(text) for text in texts]
        sizes = [(ground.bit_count(), len(PlainCase(text).rules)) for text, (_, ground) in zip(texts, told)]
        return sum(count for count, _ in told), sum(0 < size < most for size, most in sizes)

    def test_cases_of_few_rules(self):
        source = random.Random(31)
        texts = [with_weights(source, random_text(source, ["c", "e"], 3, 3, 2), 2) for _ in range(250)]
        count, between = self.summary(texts)
        self.assertGreater(count, 500)
        self.assertGreater(between, 50)

    def test_cases_of_more_rules(self):
        source = random.Random(32)
        texts = [with_weights(source, random_text(source, ["c", "e", "p-p"], 4, 5, 2), 5) for _ in range(60)]
        count, between = self.summary(texts)
        self.assertGreater(count, 300)
        self.assertGreater(between, 20)


class ReasonOrDoubt(DoubtCase):
    """Larger cases than can be gone through whole: of what is told, never both and never neither."""

    def check(self, text):
        case, t = PlainCase(text), bytes_of(text)
        told = {}
        for literal in case.literals():
            why, doubts = reason(literal, t), doubt(literal, t)
            self.assertEqual(sorted([why[0], doubts[0]]), [-3, 0], (text, literal))
            if doubts[0] == 0:
                self.assertEqual(len(doubts), 2)
                self.assertEqual(doubted(literal, doubts[1], t), YES, (text, literal))
            else:
                self.assertEqual(doubts, NONE_THERE)
            told.setdefault(doubts[0], set()).add(doubts[-1])
        # Of every literal that is doubted the same set is told.
        self.assertEqual(len(told.get(0, {0})), 1, text)
        return sorted(told)

    def test_cases_made_up(self):
        source = random.Random(33)
        seen = []
        for _ in range(150):
            text = with_weights(source, random_text(source, ["c", "e", "p-p"], 5, 5, 3), 5)
            seen.append(self.check(text))
        self.assertGreater(seen.count([-3, 0]), 100)

    def test_ten_rules(self):
        source = random.Random(34)
        for _ in range(8):
            way = source.sample("abcdefghij", 10)
            text = "".join(f"rule {name}: => h{name}\n" for name in "abcdefghij")
            pairs = list(zip(way, way[1:])) + list(zip(way, way[3:]))
            text += "".join(f"law x{n:02}: {one} -> ~{two}\n" for n, (one, two) in enumerate(pairs)
                            if source.random() < 0.8)
            text += "".join(f"weigh {one} > {two}\n" for one, two in zip(way, way[1:]))
            self.assertEqual(self.check(text), [-3, 0])


class Kept(DoubtCase):
    TEXTS = ["rule a: => p\nrule b: => ~p\nweigh a > b\n", "rule a: => p\nrule b: => ~p\n", "", "law\n",
             "law x: -> p\n", WEIGHED_CHAIN]

    def test_what_is_handed_in_stays_and_a_second_call_answers_alike(self):
        texts = [bytes_of(text) for text in self.TEXTS] + [full_text(8193)]
        asked = list(itertools.product(range(7), texts))
        firsts = []
        for literal, t in asked:
            before = list(t)
            firsts.append(doubt(literal, t))
            self.assertEqual(t, before)
        self.assertEqual([doubt(*one) for one in asked], firsts)
        self.assertEqual(sorted({answer[0] for answer in firsts}), [-6, -3, -1, 0])
        for answer in firsts:
            self.assertIs(type(answer), list)
            self.assertTrue(all(type(number) is int for number in answer), answer)

    def test_what_is_given_back_is_the_callers_own(self):
        for literal in (0, 1, 8):
            first = doubt(literal, bytes_of("rule a: => p\n"))
            again = list(first)
            first.append(9)
            first[0] = 9
            self.assertEqual(doubt(literal, bytes_of("rule a: => p\n")), again)


if __name__ == "__main__":
    unittest.main()

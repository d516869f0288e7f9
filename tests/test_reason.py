"""reason: which set, ranks and steps it tells, what doesn't stand, where it refuses; promise 3 over small cases."""

import itertools
import random
import time
import unittest

from reasonhall.desk import derive, ranked, reason, reasoned
from tests.helper import (
    CHAIN, WEIGHED_CHAIN, PlainCase, bytes_of, clause, fault_of, full_text, long_chain, random_text, weight_rows,
    with_weights,
)

HIGHEST = 4294967295
YES = [0, 1]
NONE_THERE = [-3]


class ReasonCase(unittest.TestCase):
    def assert_told(self, text, literal, rules, ranks, steps):
        """That this is told of the literal, given by its name; the rules are given by theirs."""
        case = PlainCase(text)
        names = [rule[0] for rule in case.rules]
        chosen = sum(1 << names.index(name) for name in rules)
        answer = reason(case.number(literal), bytes_of(text))
        self.assertEqual(answer, [0, chosen] + ranks + steps, (text, literal))

    def assert_none(self, text, *literals):
        for literal in literals:
            self.assertEqual(reason(PlainCase(text).number(literal), bytes_of(text)), NONE_THERE, (text, literal))


class TheSetTold(ReasonCase):
    def test_a_literal_of_the_laws_alone_has_the_empty_set(self):
        self.assert_told("law x: -> p\n", "p", "", [], [1, 0])
        self.assert_told("law x: -> p\nlaw y: p -> ~q\n", "~q", "", [], [1, 0, 1, 1])
        text = "law x: -> p\nlaw y: p -> q\nrule a: => q\nrule b: => p\n"
        self.assert_told(text, "p", "", [0, 0], [1, 0])
        self.assert_told(text, "q", "", [0, 0], [1, 0, 1, 1])
        # However the rules strike each other, and though a rule's name follows by a law.
        text = "law x: -> p\nlaw y: -> a\nrule a: => q\nrule b: => ~q\nrule c: => ~p\n"
        self.assert_told(text, "p", "", [0, 0, 0], [1, 0])
        self.assert_told(text, "a", "", [0, 0, 0], [1, 1])
        self.assert_none(text, "q", "~q", "~p", "~a", "b", "c", "~b", "~c")

    def test_one_rule(self):
        text = "rule a: => p\nrule b: => q\n"
        self.assert_told(text, "p", "a", [1, 0], [2, 0])
        self.assert_told(text, "q", "b", [0, 1], [2, 1])
        self.assert_told(text, "a", "a", [1, 0], [0, 0])
        self.assert_told(text, "b", "b", [0, 1], [0, 1])
        self.assert_none(text, "~p", "~q", "~a", "~b")

    def test_rules_one_behind_another(self):
        text = "rule a: => p\nrule b: p => q\nrule c: q => r\nlaw x: r, a -> ~s\n"
        self.assert_told(text, "q", "ab", [1, 1, 0], [2, 0, 2, 1])
        self.assert_told(text, "r", "abc", [1, 1, 1], [2, 0, 2, 1, 2, 2])
        self.assert_told(text, "~s", "abc", [1, 1, 1], [0, 0, 2, 0, 2, 1, 2, 2, 1, 0])
        self.assert_told(text, "c", "c", [0, 0, 1], [0, 2])
        self.assert_none(text, "s", "~r")

    def test_of_as_many_rules_the_least_number(self):
        text = "law x: -> q\nrule a: => r\nrule b: q => p\nrule c: => p\nrule d: q, r => p\nrule e: r => p\n"
        self.assert_told(text, "p", "b", [0, 1, 0, 0, 0], [1, 0, 2, 1])
        # Two of three yield p, whichever they are.
        text = "rule a: => h\nrule b: => i\nrule c: => j\nlaw x: h, i -> p\nlaw y: h, j -> p\nlaw z: i, j -> p\n"
        self.assert_told(text, "p", "ab", [1, 1, 0], [2, 0, 2, 1, 1, 0])
        # The least number, not the set that has the least rule: {b, c} is 6, {a, d} is 9.
        text = "rule a: => h\nrule b: => i\nrule c: => j\nrule d: => k\nlaw x: h, k -> p\nlaw y: i, j -> p\n"
        self.assert_told(text, "p", "bc", [0, 1, 1, 0], [2, 1, 2, 2, 1, 1])

    def test_the_least_number_goes_by_names_not_by_lines(self):
        text = "rule c: => p\nrule b: q => p\nrule a-b: r => p\nlaw x: -> q\nlaw y: -> r\n"
        self.assert_told(text, "p", ["a-b"], [1, 0, 0], [1, 1, 2, 0])

    def test_fewer_rules_go_before_the_least_number(self):
        text = "rule a: => q\nrule b: q => r\nrule c: => r\n"
        self.assert_told(text, "r", "c", [0, 0, 1], [2, 2])
        text = "rule a: => h\nrule b: => i\nrule c: => j\nrule d: => k\nrule e: => l\n"
        text += "law x: h, i, j -> p\nlaw y: k, l -> p\n"
        self.assert_told(text, "p", "de", [0, 0, 0, 1, 1], [2, 3, 2, 4, 1, 1])
        # Two rules of greater numbers, though the three are fewer steps.
        text = "rule a: => p\nrule b: => q\nrule c: => r\nrule d: => s\nlaw x: a, b, c -> z\nlaw y: d, t -> z\n"
        text += "law u: s -> v\nlaw w: v -> t\n"
        self.assert_told(text, "z", "d", [0, 0, 0, 1], [0, 3, 2, 3, 1, 0, 1, 1, 1, 3])

    def test_sets_that_cannot_be_ranked_are_left_out(self):
        # p follows from a, which b strikes, and from {c, d}.
        text = "rule a: => p\nrule b: => ~a\nrule c: => q\nrule d: q => p\n"
        self.assert_told(text, "p", "cd", [0, 0, 1, 1], [2, 2, 2, 3])
        # Of e and a, the only single ones, a is struck.
        text = "rule a: => p\nrule b: => ~a\nrule c: => q\nrule d: q => p\nrule e: ~q1 => p\nlaw x: -> ~q1\n"
        self.assert_told(text, "p", "e", [0, 0, 0, 0, 1], [1, 0, 2, 4])
        self.assert_told(text + "weigh a > b\n", "p", "a", [1, 0, 0, 0, 0], [2, 0])


class Defended(ReasonCase):
    """Sets with rules that yield nothing for the literal, but without which others aren't defended."""

    def test_the_chain(self):
        self.assert_told(WEIGHED_CHAIN, "ha", "a", [1] + [0] * 9, [2, 0])
        self.assert_told(WEIGHED_CHAIN, "hc", "ac", [1, 0, 2] + [0] * 7, [2, 2])
        self.assert_told(WEIGHED_CHAIN, "he", "ace", [1, 0, 2, 0, 3] + [0] * 5, [2, 4])
        self.assert_told(WEIGHED_CHAIN, "hg", "aceg", [1, 0, 2, 0, 3, 0, 4, 0, 0, 0], [2, 6])
        self.assert_told(WEIGHED_CHAIN, "hi", "acegi", [1, 0, 2, 0, 3, 0, 4, 0, 5, 0], [2, 8])
        self.assert_told(WEIGHED_CHAIN, "i", "acegi", [1, 0, 2, 0, 3, 0, 4, 0, 5, 0], [0, 8])
        self.assert_told(WEIGHED_CHAIN, "~b", "a", [1] + [0] * 9, [0, 0, 1, 0])
        self.assert_told(WEIGHED_CHAIN, "~j", "acegi", [1, 0, 2, 0, 3, 0, 4, 0, 5, 0], [0, 8, 1, 8])
        self.assert_none(WEIGHED_CHAIN, "hb", "hd", "hf", "hh", "hj", "b", "j", "~a", "~i")

    def test_the_chain_the_other_way_round(self):
        text = "".join(f"rule {name}: => h{name}\n" for name in "edcba")
        text += "".join(f"law x{one}: {one} -> ~{two}\nweigh {one} > {two}\n" for one, two in zip("edcb", "dcba"))
        self.assert_told(text, "ha", "ace", [3, 0, 2, 0, 1], [2, 0])
        self.assert_told(text, "hc", "ce", [0, 0, 2, 0, 1], [2, 2])
        self.assert_none(text, "hb", "hd", "b", "d")

    # x strikes c; nothing strikes a, b, d and e.
    STRUCK = "rule a: => p\nrule b: => q\nrule c: => z\nrule d: => r\nrule e: => s\nrule x: => ~z\nweigh x > c\n"

    def test_of_two_that_may_help_the_lesser_number(self):
        text = self.STRUCK + "law u: d -> ~x\nlaw v: b -> ~x\nweigh b > x\nweigh d > x\n"
        self.assert_told(text, "z", "bc", [0, 1, 2, 0, 0, 0], [2, 2])
        self.assert_told(text, "~x", "b", [0, 1, 0, 0, 0, 0], [0, 1, 1, 1])

    def test_of_one_and_two_that_may_help_the_one(self):
        text = self.STRUCK + "law u: a, b -> ~x\nlaw v: e -> ~x\nweigh a > x\nweigh b > x\nweigh e > x\n"
        self.assert_told(text, "z", "ce", [0, 0, 2, 0, 1, 0], [2, 2])

    def test_two_that_help_only_together(self):
        text = self.STRUCK + "law u: a, e -> ~x\nweigh a > x\nweigh e > x\n"
        self.assert_told(text, "z", "ace", [1, 0, 2, 0, 1, 0], [2, 2])

    def test_more_rules_that_yield_but_need_no_help(self):
        # c alone yields z but needs a and b; {d, e} yields it too, and x strikes neither if both outweigh it.
        text = self.STRUCK + "law u: a, b -> ~x\nweigh a > x\nweigh b > x\nlaw v: r, s -> z\n"
        self.assert_told(text, "z", "abc", [1, 1, 2, 0, 0, 0], [2, 2])
        text = text + "weigh d > x\nweigh e > x\n"
        self.assert_told(text, "z", "de", [0, 0, 0, 1, 1, 0], [2, 3, 2, 4, 1, 1])

    def test_more_rules_that_help_than_are_needed_to_yield(self):
        # c needs one to help it, {a, b, d} none: the two are fewer.
        text = self.STRUCK + "law u: e -> ~x\nweigh e > x\nlaw v: p, q, r -> y\nlaw w: z -> y\n"
        self.assert_told(text, "y", "ce", [0, 0, 2, 0, 1, 0], [2, 2, 1, 2])
        # And of as many, the least number: {a, b} is 3, {c, e} is 20.
        text = self.STRUCK + "law u: e -> ~x\nweigh e > x\nlaw v: p, q -> y\nlaw w: z -> y\n"
        self.assert_told(text, "y", "ab", [1, 1, 0, 0, 0, 0], [2, 0, 2, 1, 1, 1])

    def test_one_that_helps_and_yields(self):
        text = self.STRUCK + "law u: a -> ~x\nlaw v: e -> ~x\nweigh a > x\nweigh e > x\nlaw w: z, s -> y\n"
        self.assert_told(text, "y", "ce", [0, 0, 2, 0, 1, 0], [2, 4, 2, 2, 1, 2])
        self.assert_told(text, "z", "ac", [1, 0, 2, 0, 0, 0], [2, 2])

    def test_a_rule_that_the_empty_set_strikes_strikes_nobody_for_long(self):
        # x clashes by itself, so no rule is needed for c's defence; c is of rank 1.
        text = "rule c: => z\nrule x: => y\nlaw u: y -> ~x\nlaw v: x -> ~c\n"
        self.assert_told(text, "z", "c", [1, 0], [2, 0])
        # {b, x} strikes c, and x is struck by the empty set; without b there's no strike at all.
        text = "rule b: => w\nrule c: => z\nrule x: => y\nlaw u: w, y -> ~z\nlaw v: y -> ~w1\nlaw s: -> w1\n"
        self.assert_told(text, "z", "c", [0, 1, 0], [2, 1])
        self.assert_none(text, "x", "y", "~z")


class LeastRanks(ReasonCase):
    # y strikes b, a strikes y; x strikes c; b strikes x, and so do d and e together.
    TWO_WAYS = "".join(f"rule {name}: => h{name}\n" for name in "abcdexy")
    TWO_WAYS += "law l: x -> ~c\nlaw m: b -> ~x\nlaw n: d, e -> ~x\nlaw o: y -> ~b\nlaw q: a -> ~y\n"
    TWO_WAYS += "weigh x > c\nweigh b > x\nweigh d > x\nweigh e > x\nweigh y > b\nweigh a > y\n"

    def test_of_the_set_told_not_of_the_ground(self):
        self.assertEqual(PlainCase(self.TWO_WAYS).ground_ranks(), [1, 2, 2, 1, 1, 0, 0])
        self.assert_told(self.TWO_WAYS, "hc", "abc", [1, 2, 3, 0, 0, 0, 0], [2, 2])
        # With c, d and e in the body of a law, c is of rank 2 again.
        text = self.TWO_WAYS + "law r: hc, hd, he -> z\n"
        self.assert_told(text, "z", "cde", [0, 0, 2, 1, 1, 0, 0], [2, 2, 2, 3, 2, 4, 1, 5])

    def test_of_all_that_defend_the_earliest(self):
        # Both ways are in the set.
        text = self.TWO_WAYS + "law r: hb, hc, hd, he -> z\n"
        self.assert_told(text, "z", "abcde", [1, 2, 2, 1, 1, 0, 0], [2, 1, 2, 2, 2, 3, 2, 4, 1, 5])

    def test_rules_that_nothing_strikes_are_all_of_rank_1(self):
        text = "".join(f"rule {name}: => h{name}\n" for name in "abcdefghij")
        text += "law x: ha, hb, hc, hd, he -> k\nlaw y: k, hf, hg, hh, hi, hj -> l\n"
        heads = [number for rule in range(10) for number in (2, rule)]
        self.assert_told(text, "l", "abcdefghij", [1] * 10, heads + [1, 0, 1, 1])


class TheSteps(ReasonCase):
    def test_the_derivation_told_from_the_set_told(self):
        # From {a} alone p comes by law y in round 2; rule b, that isn't in the set, would yield it in round 1.
        text = "rule a: => q\nrule b: => p\nlaw x: r -> p\nlaw y: q -> p\nlaw z: a -> r\n"
        self.assert_told(text, "p", "a", [1, 0], [2, 0, 1, 1])

    HELPED = "rule a: => q\nrule b: => ~p\nrule c: => p\nlaw x: a -> ~b\nweigh a > b\nweigh b > c\n"

    def test_of_helpers_only_what_is_needed(self):
        self.assert_told(self.HELPED, "p", "ac", [1, 0, 2], [2, 2])
        text = self.HELPED + "law y: p -> r\nlaw z: q, p -> r\n"
        self.assert_told(text, "r", "ac", [1, 0, 2], [2, 2, 1, 1])

    def test_a_helper_may_come_into_the_step_told(self):
        # Of the two laws the one of the lesser number is told, though a's head is needed for it.
        text = self.HELPED + "law y: q, p -> r\nlaw z: p -> r\n"
        self.assert_told(text, "r", "ac", [1, 0, 2], [2, 2, 2, 0, 1, 1])
        text = self.HELPED + "law y: a, p -> r\nlaw z: p -> r\n"
        self.assert_told(text, "r", "ac", [1, 0, 2], [0, 0, 2, 2, 1, 1])


class WhatDoesNotStand(ReasonCase):
    def test_what_follows_from_some_rules_only(self):
        text = "rule a: => p\nrule b: => ~p\nrule c: p => q\nrule d: => r\n"
        self.assert_none(text, "p", "~p", "q", "~q", "a", "b")
        self.assert_told(text, "r", "d", [0, 0, 0, 1], [2, 3])
        for literal in ("ha", "hb", "hj", "a", "b", "j", "~b", "~j"):
            self.assert_none(CHAIN, literal)

    def test_what_follows_from_no_rules(self):
        text = "rule a: p => q\nlaw x: r -> s\n"
        self.assert_none(text, "p", "q", "r", "s", "~p", "~q", "~r", "~s", "~a")
        self.assert_told(text, "a", "a", [1], [0, 0])

    def test_what_falls(self):
        text = "rule a: => p\nrule b: => ~p\nweigh a > b\n"
        self.assert_told(text, "p", "a", [1, 0], [2, 0])
        self.assert_none(text, "~p")
        text = "rule a: => p\nrule b: => ~p\nweigh b > a\n"
        self.assert_told(text, "~p", "b", [0, 1], [2, 1])
        self.assert_none(text, "p")
        # By a law alone.
        text = "rule a: => p\nlaw x: -> ~p\n"
        self.assert_told(text, "~p", "", [0], [1, 0])
        self.assert_none(text, "p", "a")

    def test_a_rule_that_would_defend_itself(self):
        # a and b strike each other; c is struck by b alone.
        text = "rule a: => p\nrule b: => ~p\nrule c: => q\nlaw x: b -> ~c\nweigh b > c\n"
        self.assert_none(text, "p", "~p", "q", "c", "~c", "a", "b")
        self.assert_told(text + "weigh a > b\n", "q", "ac", [1, 0, 2], [2, 2])

    def test_what_every_preferred_set_has(self):
        # Of a and b one may be held, and from each q follows; it doesn't stand.
        text = "rule a: => p\nrule b: => ~p\nlaw x: a -> q\nlaw y: b -> q\n"
        self.assert_none(text, "q", "~q")


class Weights(ReasonCase):
    def test_given_directly_and_by_going_on(self):
        text = "rule a: => p\nrule b: => q\nrule c: => ~p\n"
        self.assert_none(text, "p", "~p")
        self.assert_none(text + "weigh a > b\n", "p", "~p")
        self.assert_none(text + "weigh b > c\n", "p", "~p")
        for rows in ("weigh a > b\nweigh b > c\n", "weigh b > c\nweigh a > b\n", "weigh a > c\n"):
            self.assert_told(text + rows, "p", "a", [1, 0, 0], [2, 0])
            self.assert_none(text + rows, "~p")
        for rows in ("weigh c > b\nweigh b > a\n", "weigh c > a\n"):
            self.assert_told(text + rows, "~p", "c", [0, 0, 1], [2, 2])

    def test_which_set_is_told_goes_by_them(self):
        text = "rule a: => p\nrule b: => ~a\nrule c: => q\nrule d: q => p\n"
        self.assert_told(text, "p", "cd", [0, 0, 1, 1], [2, 2, 2, 3])
        self.assert_told(text + "weigh b > a\n", "p", "cd", [0, 0, 1, 1], [2, 2, 2, 3])
        self.assert_told(text + "weigh a > b\n", "p", "a", [1, 0, 0, 0], [2, 0])


class Refused(ReasonCase):
    def test_the_empty_case(self):
        for literal in (0, 1, 2, HIGHEST):
            self.assertEqual(reason(literal, []), [-1])

    def test_a_case_without_rules_and_one_without_laws(self):
        self.assertEqual(reason(0, bytes_of("law a: -> p\n")), [0, 0, 1, 0])
        self.assertEqual(reason(1, bytes_of("law a: -> p\n")), [-3])
        self.assertEqual(reason(0, bytes_of("law a: p -> p\n")), [-3])
        self.assertEqual(reason(0, bytes_of("rule a: => p\n")), [0, 1, 1, 0, 0])
        self.assertEqual(reason(2, bytes_of("rule a: => p\n")), [0, 1, 1, 2, 0])

    def test_a_text_of_8192_bytes_and_of_more(self):
        self.assertEqual(reason(0, full_text(8192)), [0, 1, 1, 0, 0, 0])
        self.assertEqual(reason(8, full_text(8192)), [-1])
        for length in (8193, 8194, 8300):
            for literal in (0, 1, 8, HIGHEST):
                self.assertEqual(reason(literal, full_text(length)), [-1])

    def test_a_text_too_long_goes_before_no_case(self):
        for t in ([10] * 8193, [0] * 8300, full_text(8192) + [119]):
            for literal in (0, HIGHEST):
                self.assertEqual(reason(literal, t), [-1])

    def test_no_case_goes_before_the_literal(self):
        for t in ([10], [255], bytes_of("rule a: => p"), bytes_of("law a: -> p\nlaw b: -> ~p\n"),
                  bytes_of("rule a: => p\nweigh a > a\n"), full_text(8191) + [119]):
            for literal in (0, 1, 4, HIGHEST):
                self.assertEqual(reason(literal, t), [-6])

    def test_a_literal_that_there_is_not(self):
        t = bytes_of("rule a: => p\nrule b: => ~p\nlaw x: -> q\n")
        # Atoms a, b, p, q.
        self.assertEqual([reason(literal, t)[0] for literal in range(10)], [-3, -3, -3, -3, -3, -3, 0, -3, -1, -1])
        for literal in (8, 9, 127, 128, HIGHEST):
            self.assertEqual(reason(literal, t), [-1])
        t = bytes_of(long_chain())
        self.assertEqual([reason(literal, t) for literal in (127, 128, 129)], [[-3], [-1], [-1]])


class Size(ReasonCase):
    def quick(self, literal, text):
        start = time.perf_counter()
        answer = reason(PlainCase(text).number(literal), bytes_of(text))
        self.assertLess(time.perf_counter() - start, 4)
        return answer

    def test_ten_rules_and_64_laws(self):
        text = long_chain()
        case = PlainCase(text)
        self.assertEqual((len(case.laws), len(case.rules), len(case.atoms)), (64, 10, 64))
        self.assertEqual(self.quick("y53", text), [-3])
        weighed = text + "".join(f"weigh a > {name}\n" for name in "bcdefghij")
        self.assertIsNone(fault_of(weighed))
        answer = self.quick("y53", weighed)
        steps = derive(1, PlainCase(weighed).number("y53"), bytes_of(weighed))[1:]
        self.assertEqual(answer, [0, 1, 1] + [0] * 9 + steps)
        weighed = text + "".join(f"weigh {name} > a\n" for name in "bcdefghij")
        self.assertEqual(self.quick("~y53", weighed), [0, 512] + [0] * 9 + [1, 2, 9])
        self.assertEqual(self.quick("y53", weighed), [-3])

    def test_many_sets_that_cannot_be_ranked(self):
        # j strikes i, and only a to f together strike j; from each of the 256 sets within the ground that have i
        # its head follows. The chain of laws, from the last to the first, makes what follows slow to find.
        text = "".join(clause("rule", name, "", "h" + name) for name in "abcdefghij")
        text += clause("law", "k", "a, b, c, d, e, f", "~j") + clause("law", "l", "j", "~i")
        text += "".join(f"weigh {name} > j\n" for name in "abcdef") + "weigh j > i\n"
        text += clause("law", "z99", "ha", "y00")
        text += "".join(clause("law", f"z{98 - place}", f"y{place:02}", f"y{place + 1:02}") for place in range(43))
        rows = [", ".join(f"y{place + one:02}" for one in range(6)) for place in range(18)]
        text += "".join(clause("law", f"m{place:02}", body, "y43") for place, body in enumerate(rows))
        self.assertIsNone(fault_of(text))
        case = PlainCase(text)
        self.assertEqual((len(case.laws), len(case.rules), len(case.atoms)), (64, 10, 64))
        self.assertEqual(self.quick("hi", text), [0, 0b100111111] + [1] * 6 + [0, 0, 2, 0] + [2, 8])
        self.assertEqual(self.quick("hh", text), [0, 0b10000000] + [0] * 7 + [1, 0, 0] + [2, 7])
        self.assertEqual(self.quick("~j", text)[:12], [0, 0b111111] + [1] * 6 + [0] * 4)
        self.assertEqual(self.quick("y43", text)[:12], [0, 1, 1] + [0] * 9)
        self.assertEqual(self.quick("hj", text), [-3])

    def test_ten_rules_that_are_struck_by_many(self):
        text = "".join(f"rule {name}: => h{name}\n" for name in "abcdefghij")
        rows = [(six[:5], six[5]) for six in itertools.combinations("abcdefghij", 6)]
        for place, (body, head) in enumerate(rows[:64]):
            text += clause("law", f"l{place:02}", ", ".join("h" + name for name in body), f"~h{head}")
        self.assertIsNone(fault_of(text))
        self.assertEqual(self.quick("ha", text), [-3])
        weights = "".join(f"weigh {one} > {two}\n" for one, two in zip("abcdefghi", "bcdefghij"))
        self.assertEqual(self.quick("ha", text + weights), [0, 1, 1] + [0] * 9 + [2, 0])
        self.assertEqual(self.quick("~hf", text + weights)[:12], [0, 31] + [1] * 5 + [0] * 5)


class AgainstTheSecondReading(ReasonCase):
    def check(self, text):
        """All literals of the text; of each that stands which set and ranks are told."""
        case, t = PlainCase(text), bytes_of(text)
        told = []
        for literal in case.literals():
            expected = case.told_reason(literal)
            answer = reason(literal, t)
            self.assertEqual(answer, [-3] if expected is None else [0] + expected, (text, literal))
            self.assertEqual(expected is not None, case.stands(literal), (text, literal))
            if expected is not None:
                told.append((expected[0], expected[1:1 + len(case.rules)]))
        return told

    def summary(self, texts):
        """How many reasons were told, the most rules in one, the highest rank, how many have ranks above 1."""
        told = [one for text in texts for one in self.check(text)]
        return (len(told), max(rules.bit_count() for rules, _ in told), max(max(ranks) for _, ranks in told),
                sum(max(ranks) > 1 for _, ranks in told))

    def test_cases_of_few_rules(self):
        source = random.Random(11)
        texts = [with_weights(source, random_text(source, ["c", "e"], 3, 3, 2), 2) for _ in range(300)]
        count, most, highest, above = self.summary(texts)
        self.assertGreater(count, 500)
        self.assertEqual((most, highest), (3, 2))
        self.assertGreater(above, 0)

    def test_cases_of_more_rules(self):
        source = random.Random(12)
        texts = [with_weights(source, random_text(source, ["c", "e", "p-p"], 4, 5, 2), 5) for _ in range(60)]
        count, most, highest, above = self.summary(texts)
        self.assertGreater(count, 200)
        self.assertGreaterEqual(most, 3)
        self.assertGreaterEqual(highest, 2)
        self.assertGreater(above, 0)

    def test_rules_that_strike_by_their_names(self):
        source = random.Random(13)
        texts = []
        for _ in range(80):
            way = source.sample("abcde", 5)
            pairs = [pair for pair in zip(way, way[1:]) if source.random() < 0.8]
            pairs += [pair for pair in itertools.combinations("abcde", 2) if source.random() < 0.1]
            text = "".join(f"rule {name}: => h{name}\n" for name in "abcde")
            text += "".join(f"law x{n}: {one} -> ~{two}\n" for n, (one, two) in enumerate(dict.fromkeys(pairs)))
            trios = source.sample(list(itertools.permutations("abcde", 3)), source.randint(0, 2))
            text += "".join(f"law y{n}: {one}, {two} -> ~{three}\n" for n, (one, two, three) in enumerate(trios))
            duos = source.sample(list(itertools.combinations("abcde", 2)), source.randint(0, 3))
            text += "".join(f"law z{n}: h{one}, h{two} -> z\n" for n, (one, two) in enumerate(duos))
            text += "".join(f"weigh {one} > {two}\n" for one, two in zip(way, way[1:]) if source.random() < 0.9)
            self.assertIsNone(fault_of(text), text)
            texts.append(text)
        count, most, highest, above = self.summary(texts)
        self.assertGreater(count, 400)
        self.assertGreaterEqual(most, 3)
        self.assertEqual(highest, 3)
        self.assertGreater(above, 100)


class Promise3(ReasonCase):
    """Small cases, gone through whole: all sets, all derivations, all ranks up to as many as the set has rules."""

    def rank_rows(self, size, rules):
        choices = [range(1, rules.bit_count() + 1) if rules >> one & 1 else [0] for one in range(size)]
        return [list(ranks) for ranks in itertools.product(*choices)]

    def reasons(self, case, t):
        """Of each literal for which reasoned takes a reason the sets of those it takes."""
        found = {}
        # What is a derivation from a set is one from all rules, so there are no others.
        rows = case.derivations(len(case.sets()) - 1)
        for rules in case.sets():
            for ranks in self.rank_rows(len(case.rules), rules):
                for literal, row in rows:
                    fault = case.reason_fault(literal, rules, ranks, row)
                    answer = reasoned(literal, rules, t, ranks, row)
                    self.assertEqual(answer, YES if fault is None else [0, 0] + fault, (bytes(t), rules, ranks, row))
                    if answer == YES:
                        found.setdefault(literal, []).append(rules)
        return found

    def check(self, text):
        case, t = PlainCase(text), bytes_of(text)
        found = self.reasons(case, t)
        count = len(case.rules)
        for literal in case.literals():
            told = reason(literal, t)
            self.assertEqual(literal in found, case.stands(literal), (text, literal))
            if literal not in found:
                self.assertEqual(told, [-3], (text, literal))
                continue
            rules, ranks, steps = told[1], told[2:2 + count], told[2 + count:]
            self.assertEqual(told[0], 0, (text, literal))
            self.assertEqual(reasoned(literal, rules, t, ranks, steps), YES, (text, literal))
            self.assertEqual(ranked(rules, t, ranks), YES, (text, literal))
            fewest = min((one.bit_count(), one) for one in found[literal])
            self.assertEqual((rules.bit_count(), rules), fewest, (text, literal))
        return len(found)

    def test_two_rules_with_bodies(self):
        options = list(itertools.product(["", "p", "~b"], ["p", "~p", "~a", "b"]))
        count = stand = 0
        for one, two in itertools.permutations(options, 2):
            for rows in weight_rows("ab"):
                stand += self.check(clause("rule", "a", *one) + clause("rule", "b", *two) + rows)
                count += 1
        self.assertEqual(count, 396)
        self.assertGreater(stand, 500)

    def check_three(self, text, laws):
        """The three rules with each choice of the laws and of weights: how many cases, how many literals stand."""
        count = stand = 0
        weights = list(weight_rows("abc"))
        for chosen in itertools.product((False, True), repeat=len(laws)):
            rows = "".join(law for law, there in zip(laws, chosen) if there)
            for weighed in weights:
                stand += self.check(text + rows + weighed)
                count += 1
        return count, stand

    def test_three_rules_that_strike_by_their_names(self):
        laws = ["law v: a -> ~b\n", "law w: b -> ~c\n", "law x: c -> ~a\n"]
        count, stand = self.check_three("rule a: => p\nrule b: => q\nrule c: => r\n", laws)
        self.assertEqual(count, 200)
        self.assertGreater(stand, 500)

    def test_three_rules_that_yield_the_same(self):
        laws = ["law v: a -> ~b\n", "law w: b -> ~c\n"]
        count, stand = self.check_three("rule a: => p\nrule b: => q\nrule c: q => p\n", laws)
        self.assertEqual(count, 100)
        self.assertGreater(stand, 300)


class Kept(ReasonCase):
    TEXTS = ["rule a: => p\nrule b: => ~p\nweigh a > b\n", "rule a: => p\nrule b: => ~p\n", "", "law\n",
             "law x: -> p\n", WEIGHED_CHAIN]

    def test_what_is_handed_in_stays_and_a_second_call_answers_alike(self):
        texts = [bytes_of(text) for text in self.TEXTS] + [full_text(8193)]
        asked = list(itertools.product(range(7), texts))
        firsts = []
        for literal, t in asked:
            before = list(t)
            firsts.append(reason(literal, t))
            self.assertEqual(t, before)
        self.assertEqual([reason(*one) for one in asked], firsts)
        for answer in firsts:
            self.assertIs(type(answer), list)
            self.assertTrue(all(type(number) is int for number in answer), answer)

    def test_what_is_given_back_is_the_callers_own(self):
        for literal in (0, 1, 8):
            first = reason(literal, bytes_of("rule a: => p\n"))
            again = list(first)
            first.append(9)
            first[0] = 9
            self.assertEqual(reason(literal, bytes_of("rule a: => p\n")), again)


if __name__ == "__main__":
    unittest.main()

"""ranked: which sets it takes, each fault and which comes first, where it refuses; promise 2 over small cases."""

import itertools
import random
import time
import unittest

from reasonhall.desk import ranked
from tests.helper import (
    CHAIN, WEIGHED_CHAIN, PlainCase, bytes_of, clause, fault_of, full_text, long_chain, random_text, weight_rows,
    with_weights,
)

HIGHEST = 4294967295
YES = [0, 1]
EVERY_SECOND = 0b0101010101


def no(kind, number):
    return [0, 0, kind, number]


class RankedCase(unittest.TestCase):
    def assert_taken(self, text, rules, ranks):
        self.assertEqual(ranked(rules, bytes_of(text), ranks), YES, (text, rules, ranks))

    def assert_fault(self, text, rules, ranks, kind, number):
        self.assertEqual(ranked(rules, bytes_of(text), ranks), no(kind, number), (text, rules, ranks))

    def assert_alone(self, text, defended):
        """Which rules the empty set defends, so that each by itself is a ranked set."""
        count = len(PlainCase(text).rules)
        for number in range(count):
            for rank in (1, 10):
                ranks = [rank if one == number else 0 for one in range(count)]
                answer = YES if number in defended else no(2, number)
                self.assertEqual(ranked(1 << number, bytes_of(text), ranks), answer, (text, number))


class Taken(RankedCase):
    def test_the_empty_set(self):
        self.assert_taken("", 0, [])
        self.assert_taken("law a: -> p\n", 0, [])
        self.assert_taken("rule a: => ~a\n", 0, [0])
        self.assert_taken(CHAIN, 0, [0] * 10)

    def test_rules_that_nothing_strikes(self):
        text = "rule a: => p\nrule b: => q\n"
        for ranks in itertools.product(range(1, 11), repeat=2):
            self.assert_taken(text, 3, list(ranks))
            self.assert_taken(text, 1, [ranks[0], 0])
            self.assert_taken(text, 2, [0, ranks[1]])

    def test_several_ranks(self):
        self.assert_taken(WEIGHED_CHAIN, EVERY_SECOND, [1, 0, 2, 0, 3, 0, 4, 0, 5, 0])
        self.assert_taken(WEIGHED_CHAIN, EVERY_SECOND, [1, 0, 4, 0, 5, 0, 9, 0, 10, 0])
        self.assert_taken(WEIGHED_CHAIN, EVERY_SECOND, [6, 0, 7, 0, 8, 0, 9, 0, 10, 0])
        self.assert_taken(WEIGHED_CHAIN, 0b101, [1, 0, 2] + [0] * 7)
        self.assert_taken(WEIGHED_CHAIN, 1, [3] + [0] * 9)

    def test_the_order_of_lines_and_names_is_no_matter(self):
        rows = WEIGHED_CHAIN.splitlines(keepends=True)
        text = "".join(rows[9::-1] + rows[:9:-1])
        self.assert_taken(text, EVERY_SECOND, [1, 0, 2, 0, 3, 0, 4, 0, 5, 0])
        turned = "".join(f"rule {name}: => k{name}\n" for name in "jihgfedcba")
        turned += "".join(f"law x{one}: {one} -> ~{two}\n" for one, two in zip("jihgfedcb", "ihgfedcba"))
        turned += "".join(f"weigh {one} > {two}\n" for one, two in zip("jihgfedcb", "ihgfedcba"))
        self.assert_taken(turned, EVERY_SECOND << 1, [0, 5, 0, 4, 0, 3, 0, 2, 0, 1])
        self.assert_fault(turned, EVERY_SECOND << 1, [0, 5, 0, 4, 0, 3, 0, 1, 0, 1], 2, 7)


class Faults(RankedCase):
    def test_0_a_bit_that_is_no_rules(self):
        for rules in (1, 2, 1024, HIGHEST):
            self.assert_fault("", rules, [], 0, 0)
            self.assert_fault("law a: -> p\n", rules, [], 0, 0)
        for rules in (2, 3, 4, 1024, 2147483648, HIGHEST):
            self.assert_fault("rule a: => p\n", rules, [1], 0, 0)
        self.assert_fault(WEIGHED_CHAIN, 1024, [0] * 10, 0, 0)
        self.assert_fault(WEIGHED_CHAIN, 1024 + EVERY_SECOND, [1, 0, 2, 0, 3, 0, 4, 0, 5, 0], 0, 0)

    def test_0_goes_before_1_and_2(self):
        for ranks in ([0, 0], [1, 0], [11, HIGHEST], [0, 1]):
            self.assert_fault("rule a: => ~a\nrule b: => p\n", 5, ranks, 0, 0)

    def test_1_a_rank_though_the_rule_is_not_in_the_set(self):
        text = "rule a: => p\nrule b: => q\nrule c: => r\n"
        for rank in (1, 2, 10, 11, HIGHEST):
            self.assert_fault(text, 0, [rank, 0, 0], 1, 0)
            self.assert_fault(text, 5, [1, rank, 1], 1, 1)
            self.assert_fault(text, 3, [1, 1, rank], 1, 2)

    def test_1_no_rank_though_it_is(self):
        text = "rule a: => p\nrule b: => q\nrule c: => r\n"
        self.assert_fault(text, 1, [0, 0, 0], 1, 0)
        self.assert_fault(text, 7, [1, 0, 1], 1, 1)
        self.assert_fault(text, 7, [1, 1, 0], 1, 2)
        self.assert_fault(text, 7, [0, 0, 0], 1, 0)

    def test_1_a_rank_above_10(self):
        text = "rule a: => p\nrule b: => q\nrule c: => r\n"
        self.assert_taken(text, 7, [10, 10, 10])
        for rank in (11, 12, 255, HIGHEST):
            self.assert_fault(text, 7, [rank, 1, 1], 1, 0)
            self.assert_fault(text, 7, [1, 1, rank], 1, 2)
            self.assert_fault(text, 2, [0, rank, 0], 1, 1)

    def test_1_the_first_such_rule(self):
        text = "rule a: => p\nrule b: => q\nrule c: => r\n"
        for wrong in itertools.product((0, 11), (1, 5), (0, 11)):
            self.assert_fault(text, 5, list(wrong), 1, 0)
            self.assert_fault(text, 5, [1] + list(wrong[1:]), 1, 1)
            self.assert_fault(text, 5, [1, 0] + list(wrong[2:]), 1, 2)

    def test_1_goes_before_2_though_of_a_later_rule(self):
        text = "rule a: => ~a\nrule b: => p\n"
        self.assert_fault(text, 1, [1, 0], 2, 0)
        self.assert_fault(text, 1, [1, 1], 1, 1)
        self.assert_fault(text, 3, [1, 0], 1, 1)
        self.assert_fault(text, 3, [1, 11], 1, 1)

    def test_2_not_by_a_rule_of_the_same_or_a_greater_rank(self):
        self.assert_fault(WEIGHED_CHAIN, 0b101, [1, 0, 1] + [0] * 7, 2, 2)
        self.assert_fault(WEIGHED_CHAIN, 0b101, [2, 0, 1] + [0] * 7, 2, 2)
        self.assert_fault(WEIGHED_CHAIN, EVERY_SECOND, [1, 0, 2, 0, 2, 0, 3, 0, 4, 0], 2, 4)
        self.assert_fault(WEIGHED_CHAIN, EVERY_SECOND, [1, 0, 2, 0, 3, 0, 4, 0, 4, 0], 2, 8)

    def test_2_not_by_a_rule_outside_the_set(self):
        self.assert_fault(WEIGHED_CHAIN, 0b100, [0, 0, 2] + [0] * 7, 2, 2)
        self.assert_fault(WEIGHED_CHAIN, 0b10001, [1, 0, 0, 0, 2] + [0] * 5, 2, 4)

    def test_2_the_first_such_rule_by_number(self):
        self.assert_fault(WEIGHED_CHAIN, 1023, [1] * 10, 2, 1)
        self.assert_fault(WEIGHED_CHAIN, 1022, [0] + [9, 8, 7, 6, 5, 4, 3, 2, 1], 2, 1)
        self.assert_fault(WEIGHED_CHAIN, 0b1111100100, [0, 0, 10, 0, 0, 1, 1, 1, 1, 1], 2, 2)

    def test_2_not_by_itself(self):
        # a and b strike each other, so each would defend itself.
        text = "rule a: => p\nrule b: => ~p\n"
        self.assert_alone(text, [])
        self.assert_fault(text, 3, [1, 2], 2, 0)
        self.assert_alone(CHAIN, [])


class Weights(RankedCase):
    def test_given_directly(self):
        text = "rule a: => p\nrule b: => ~p\n"
        self.assert_alone(text + "weigh a > b\n", [0])
        self.assert_alone(text + "weigh b > a\n", [1])
        self.assert_fault(text + "weigh a > b\n", 3, [1, 2], 2, 1)

    def test_by_going_on(self):
        text = "rule a: => p\nrule b: => q\nrule c: => ~p\n"
        self.assert_alone(text, [1])
        self.assert_alone(text + "weigh a > b\n", [1])
        self.assert_alone(text + "weigh b > c\n", [1])
        self.assert_alone(text + "weigh a > b\nweigh b > c\n", [0, 1])
        self.assert_alone(text + "weigh b > c\nweigh a > b\n", [0, 1])
        self.assert_alone(text + "weigh c > b\nweigh b > a\n", [1, 2])

    def test_by_going_on_over_all_ten_whatever_the_order_of_lines(self):
        source = random.Random(5)
        text = "".join(f"rule {name}: => {'~p' if name == 'e' else 'p' if name == 'f' else 'h' + name}\n"
                       for name in "abcdefghij")
        way = ["f", "a", "j", "b", "i", "c", "h", "d", "g", "e"]
        rows = [f"weigh {one} > {two}\n" for one, two in zip(way, way[1:])]
        for _ in range(4):
            source.shuffle(rows)
            self.assert_alone(text + "".join(rows), [0, 1, 2, 3, 5, 6, 7, 8, 9])
            self.assert_alone(text + "".join(rows[1:]), [0, 1, 2, 3, 6, 7, 8, 9])

    def test_one_outweighed_rule_is_enough(self):
        # {a, b} would strike c; each of these weights alone forbids it.
        text = "rule a: => p\nrule b: => q\nrule c: => r\nlaw x: a, b, c -> ~p\n"
        self.assert_alone(text, [])
        self.assert_alone(text + "weigh c > a\n", [2])
        self.assert_alone(text + "weigh c > b\n", [2])
        self.assert_alone(text + "weigh c > a\nweigh c > b\n", [2])
        self.assert_alone(text + "weigh a > c\n", [0])
        self.assert_alone(text + "weigh a > c\nweigh b > c\n", [0, 1])
        self.assert_alone(text + "weigh a > b\nweigh b > c\n", [0, 1])

    def test_of_those_that_strike_not_of_their_parts(self):
        # c outweighs a, which isn't needed for the strike of {b}.
        text = "rule a: => p\nrule b: => ~r\nrule c: => r\nlaw x: a, c -> ~p\nweigh c > a\n"
        self.assert_alone(text, [])
        self.assert_alone(text + "weigh c > b\n", [2])


class Strikes(RankedCase):
    # a and b strike c only together, d strikes b, and nothing strikes a or d.
    TOGETHER = "rule a: => p\nrule b: => q\nrule c: => r\nrule d: => s\nlaw x: p, q -> ~r\nlaw y: d -> ~b\n"
    TOGETHER += "weigh a > c\nweigh b > c\nweigh d > b\n"

    def test_rules_that_strike_only_together(self):
        self.assert_alone(self.TOGETHER, [0, 3])
        # One struck rule of the two is enough.
        self.assert_taken(self.TOGETHER, 0b1100, [0, 0, 2, 1])
        self.assert_taken(self.TOGETHER, 0b1101, [1, 0, 2, 1])
        self.assert_taken(self.TOGETHER, 0b1101, [3, 0, 2, 1])
        self.assert_fault(self.TOGETHER, 0b1101, [1, 0, 1, 1], 2, 2)
        self.assert_fault(self.TOGETHER, 0b0101, [1, 0, 2, 0], 2, 2)
        self.assert_fault(self.TOGETHER, 0b1111, [1, 2, 2, 1], 2, 1)

    def test_rules_that_defend_only_together(self):
        # b strikes a; c and d strike b only together.
        text = "rule a: => p\nrule b: => ~p\nrule c: => q\nrule d: => r\nlaw x: q, r -> ~b\n"
        text += "weigh b > a\nweigh c > b\nweigh d > b\n"
        self.assert_alone(text, [2, 3])
        self.assert_taken(text, 0b1101, [2, 0, 1, 1])
        self.assert_taken(text, 0b1101, [3, 0, 1, 2])
        self.assert_fault(text, 0b1101, [2, 0, 1, 2], 2, 0)
        self.assert_fault(text, 0b0101, [2, 0, 1, 0], 2, 0)
        self.assert_fault(text, 0b1001, [2, 0, 0, 1], 2, 0)

    def test_all_that_strike_must_be_struck(self):
        # b and c strike a, d strikes b, e strikes c.
        text = "rule a: => p\nrule b: => q\nrule c: => r\nrule d: => s\nrule e: => u\n"
        text += "law v: b -> ~a\nlaw w: c -> ~a\nlaw x: d -> ~b\nlaw y: e -> ~c\n"
        text += "weigh d > b\nweigh b > a\nweigh e > c\nweigh c > a\n"
        self.assert_alone(text, [3, 4])
        self.assert_taken(text, 0b11001, [3, 0, 0, 1, 2])
        self.assert_fault(text, 0b11001, [2, 0, 0, 1, 2], 2, 0)
        self.assert_fault(text, 0b01001, [2, 0, 0, 1, 0], 2, 0)
        self.assert_fault(text, 0b10001, [2, 0, 0, 0, 1], 2, 0)

    def test_a_set_that_clashes_itself_does_not_strike(self):
        self.assert_alone("rule a: => p\nrule b: => ~p\nrule c: => q\n", [2])
        self.assert_alone("rule a: => p\nrule b: => ~p\nrule c: => q\nlaw x: a, b -> ~c\n", [2])
        self.assert_alone("rule a: => ~a\nrule b: => p\nlaw x: a -> ~b\n", [1])

    def test_a_rule_that_clashes_by_itself_is_struck_by_the_empty_set(self):
        for rest in ("rule a: => ~a\n", "rule a: => p\nlaw x: a -> ~a\n", "rule a: => p\nlaw x: -> ~a\n",
                     "rule a: => p\nlaw x: -> ~p\n", "rule a: => p\nlaw x: a -> ~p\n", "rule a: a => ~a\n",
                     "rule a: => p\nlaw x: a -> q\nlaw y: p -> ~q\n"):
            text = rest + "rule b: => s\n"
            self.assert_alone(text, [1])
            self.assert_alone(text + "weigh a > b\n", [1])
            self.assert_fault(text, 3, [2, 1], 2, 0)
        self.assert_alone("rule a: p => ~a\n", [0])

    def test_laws(self):
        text = "rule a: => p\nrule b: => q\nlaw x: p -> r\nlaw y: r, s -> ~q\n"
        self.assert_alone(text, [0, 1])
        self.assert_alone(text + "law z: -> s\n", [])
        self.assert_alone(text + "law z: -> s\nweigh a > b\n", [0])
        self.assert_alone(text + "law z: -> ~s\n", [0, 1])

    def test_bodies_of_rules(self):
        # a yields only with b's head.
        text = "rule a: q => p\nrule b: => q\nrule c: => ~p\n"
        # {a, b} strikes c, {b, c} strikes a, {a, c} strikes b.
        self.assert_alone(text, [])
        self.assert_alone(text + "weigh c > b\n", [2])
        self.assert_alone("rule a: q => p\nrule c: => ~p\n", [0, 1])
        self.assert_alone("rule a: q => p\nrule c: => ~p\nlaw x: -> q\n", [])

    def test_names_of_rules_in_bodies(self):
        self.assert_alone("rule a: => p\nrule b: a => ~p\n", [])
        self.assert_alone("rule a: => p\nrule b: ~a => ~p\n", [0, 1])
        # c's head lets b yield, so that both strike d; a strikes c.
        text = "rule a: => q\nrule b: ~a => ~p\nrule c: => ~a\nrule d: => p\n"
        self.assert_alone(text, [])
        self.assert_alone(text + "weigh a > c\n", [0])
        self.assert_taken(text + "weigh a > c\n", 0b1001, [1, 0, 0, 2])
        self.assert_fault(text + "weigh a > c\n", 0b1001, [1, 0, 0, 1], 2, 3)
        # The name b follows from a too, without rule b; so a strikes c alone.
        text = "rule a: => b\nrule b: q => q\nrule c: b => ~a\n"
        self.assert_alone(text, [1])
        self.assert_alone(text + "weigh a > c\n", [0, 1])
        self.assert_alone(text + "weigh c > a\n", [1, 2])

    def test_names_of_rules_in_heads(self):
        text = "rule a: => ~b\nrule b: => p\n"
        self.assert_alone(text, [])
        self.assert_alone(text + "weigh a > b\n", [0])
        self.assert_alone(text + "weigh b > a\n", [1])
        self.assert_alone("rule a: => b\nrule b: => p\n", [0, 1])
        # Of b its name alone, not its head, follows from a.
        self.assert_alone("rule a: => b\nrule b: => p\nrule c: => ~p\n", [0])
        self.assert_alone("rule a: => a\nrule b: => ~c\nrule c: => b\nweigh c > b\n", [0, 2])

    def test_names_of_rules_in_heads_of_laws(self):
        self.assert_alone("rule a: => p\nrule b: => q\nlaw x: p -> ~b\n", [])
        self.assert_alone("rule a: => p\nrule b: => q\nlaw x: p -> b\n", [0, 1])
        # ~b follows from the laws: rule b can't be; what strikes by its name alone doesn't either.
        self.assert_alone("rule a: => p\nrule b: => ~p\nlaw x: -> ~b\n", [0])


class AgainstTheSecondReading(RankedCase):
    def check(self, case, t, rules, ranks):
        fault = case.ranking_fault(rules, ranks)
        answer = ranked(rules, t, ranks)
        self.assertEqual(answer, YES if fault is None else [0, 0] + fault, (bytes(t), rules, ranks))
        return answer

    def rank_rows(self, source, case, rules):
        """Some rows of ranks for the set: right ones and wrong ones."""
        size = len(case.rules)
        ground = case.ground_ranks()
        yield [(ground[one] or 10) if rules >> one & 1 else 0 for one in range(size)]
        yield [1 if rules >> one & 1 else 0 for one in range(size)]
        yield [source.randint(1, size) if rules >> one & 1 else 0 for one in range(size)]
        wrong = [source.randint(1, size) if rules >> one & 1 else 0 for one in range(size)]
        wrong[source.randrange(size)] = source.choice([0, 1, 10, 11, HIGHEST])
        yield wrong

    def check_many(self, source, atoms, laws, rules, weights, count):
        seen, highest = {}, 0
        for _ in range(count):
            text = with_weights(source, random_text(source, atoms, laws, rules, 2), weights)
            case, t = PlainCase(text), bytes_of(text)
            highest = max([highest] + case.ground_ranks())
            for one in list(case.sets()) + [1 << len(case.rules), HIGHEST]:
                for ranks in self.rank_rows(source, case, one):
                    answer = tuple(self.check(case, t, one, ranks)[:3])
                    seen[answer] = seen.get(answer, 0) + 1
        self.assertEqual(set(seen), {(0, 1), (0, 0, 0), (0, 0, 1), (0, 0, 2)})
        self.assertGreater(min(seen.values()), 100, seen)
        return highest

    def test_cases_of_few_rules(self):
        self.assertGreaterEqual(self.check_many(random.Random(6), ["c", "e"], 3, 3, 2, 150), 2)

    def test_cases_of_more_rules(self):
        self.assertGreaterEqual(self.check_many(random.Random(7), ["c", "e", "p-p"], 4, 5, 5, 60), 2)

    def test_rules_that_strike_by_their_names(self):
        source = random.Random(8)
        highest = 0
        for _ in range(60):
            text = "".join(f"rule {name}: => h{name}\n" for name in "abcde")
            pairs = source.sample(list(itertools.permutations("abcde", 2)), source.randint(3, 6))
            text += "".join(f"law x{place}: {one} -> ~{two}\n" for place, (one, two) in enumerate(pairs))
            trios = source.sample(list(itertools.permutations("abcde", 3)), source.randint(0, 2))
            text += "".join(f"law y{n}: {one}, {two} -> ~{three}\n" for n, (one, two, three) in enumerate(trios))
            way = source.sample("abcde", 5)
            text += "".join(f"weigh {one} > {two}\n" for one, two in zip(way, way[1:]) if source.random() < 0.9)
            case, t = PlainCase(text), bytes_of(text)
            highest = max([highest] + case.ground_ranks())
            for rules in case.sets():
                for ranks in self.rank_rows(source, case, rules):
                    self.check(case, t, rules, ranks)
        self.assertGreaterEqual(highest, 3)


class Promise2(RankedCase):
    """Small cases, gone through whole: all sets, and for each rule all ranks up to as many as there are rules."""

    def rank_rows(self, size, rules):
        choices = [range(1, size + 1) if rules >> one & 1 else [0] for one in range(size)]
        return [list(ranks) for ranks in itertools.product(*choices)]

    def check(self, text):
        case, t = PlainCase(text), bytes_of(text)
        ranks = case.ground_ranks()
        ground = sum(1 << one for one, rank in enumerate(ranks) if rank)
        self.assertEqual(ranked(ground, t, ranks), YES, text)
        found = []
        for rules in case.sets():
            answers = []
            for row in self.rank_rows(len(ranks), rules):
                fault = case.ranking_fault(rules, row)
                answers.append(ranked(rules, t, row))
                self.assertEqual(answers[-1], YES if fault is None else [0, 0] + fault, (text, rules, row))
            if YES in answers:
                found.append(rules)
                self.assertEqual(rules & ~ground, 0, (text, rules))
        for one, other in itertools.combinations(found, 2):
            self.assertIn(one | other, found, text)
        return max(ranks)

    def test_two_rules_with_bodies(self):
        options = list(itertools.product(["", "p", "a", "~b"], ["p", "~p", "a", "~a", "~b"]))
        count = 0
        for one, two in itertools.permutations(options, 2):
            for rows in weight_rows("ab"):
                self.check(clause("rule", "a", *one) + clause("rule", "b", *two) + rows)
                count += 1
        self.assertEqual(count, 1140)

    def test_three_rules_by_their_heads(self):
        count, highest = 0, 0
        weights = list(weight_rows("abc"))
        for heads in itertools.permutations(["p", "~p", "~a", "~b"], 3):
            text = "".join(clause("rule", name, "", head) for name, head in zip("abc", heads))
            for rows in weights:
                highest = max(highest, self.check(text + rows))
                count += 1
        self.assertEqual((count, highest), (600, 2))

    def test_three_rules_by_laws_of_their_names(self):
        count, highest = 0, 0
        laws = ["law v: a -> ~b\n", "law w: b -> ~c\n", "law x: c -> ~a\n", "law y: a, b -> ~c\n"]
        weights = list(weight_rows("abc"))
        for told in itertools.product((False, True), repeat=4):
            text = "rule a: => p\nrule b: => q\nrule c: => r\n"
            text += "".join(law for law, there in zip(laws, told) if there)
            for rows in weights:
                highest = max(highest, self.check(text + rows))
                count += 1
        self.assertEqual((count, highest), (400, 2))


class Size(RankedCase):
    def assert_quick(self, text, rules, ranks, answer):
        start = time.perf_counter()
        self.assertEqual(ranked(rules, bytes_of(text), ranks), answer)
        self.assertLess(time.perf_counter() - start, 4)

    def test_ten_rules_and_64_laws(self):
        text = long_chain()
        self.assertIsNone(fault_of(text))
        case = PlainCase(text)
        self.assertEqual((len(case.laws), len(case.rules), len(case.atoms)), (64, 10, 64))
        self.assert_quick(text, 1, [1] + [0] * 9, no(2, 0))
        self.assert_quick(text, 1022, [0] + [1] * 9, no(2, 1))
        weighed = text + "".join(f"weigh a > {name}\n" for name in "bcdefghij")
        self.assert_quick(weighed, 1, [1] + [0] * 9, YES)
        self.assert_quick(weighed, 1023, list(range(1, 11)), no(2, 1))
        weighed = text + "".join(f"weigh {name} > a\n" for name in "bcdefghij")
        self.assert_quick(weighed, 1022, [0] + list(range(1, 10)), YES)
        self.assert_quick(weighed, 1023, list(range(1, 11)), no(2, 0))

    def test_ten_rules_that_are_struck_by_many(self):
        text = "".join(f"rule {name}: => h{name}\n" for name in "abcdefghij")
        rows = [(six[:5], six[5]) for six in itertools.combinations("abcdefghij", 6)]
        for place, (body, head) in enumerate(rows[:64]):
            text += clause("law", f"l{place:02}", ", ".join("h" + name for name in body), f"~h{head}")
        self.assertIsNone(fault_of(text))
        self.assert_quick(text, 1, [1] + [0] * 9, no(2, 0))
        weights = "".join(f"weigh a > {name}\n" for name in "bcdefghij")
        self.assert_quick(text + weights, 1, [1] + [0] * 9, YES)


class Refused(RankedCase):
    def test_a_text_of_8192_bytes_and_of_more(self):
        self.assertEqual(ranked(1, full_text(8192), [1, 0]), YES)
        self.assertEqual(ranked(2, full_text(8192), [0, 1]), YES)
        for length in (8193, 8194, 8300):
            for rules, ranks in [(1, [1, 0]), (4, [1, 0]), (1, [1]), (HIGHEST, []), (1, [11, 0])]:
                self.assertEqual(ranked(rules, full_text(length), ranks), [-1])

    def test_a_text_too_long_goes_before_no_case(self):
        for t in ([10] * 8193, [0] * 8300, full_text(8192) + [119]):
            self.assertEqual(ranked(0, t, []), [-1])
            self.assertEqual(ranked(1, t, [1, 0]), [-1])

    def test_no_case_goes_before_the_ranks(self):
        for t in ([10], [255], bytes_of("rule a: => p"), bytes_of("law a: -> p\nlaw b: -> ~p\n"),
                  bytes_of("rule a: => p\nweigh a > a\n"), full_text(8191) + [119]):
            for rules, ranks in [(0, []), (1, [1]), (HIGHEST, [1, 2, 3]), (0, [0] * 600)]:
                self.assertEqual(ranked(rules, t, ranks), [-6])

    def test_not_as_many_ranks_as_rules(self):
        three = "rule a: => p\nrule b: => q\nrule c: => r\nlaw d: -> s\n"
        self.assert_taken(three, 1, [1, 0, 0])
        for rules in (0, 1, 7, 8, HIGHEST):
            for ranks in ([], [1], [1, 0], [1, 0, 0, 0], [1, 1, 1, 1], [0] * 10, [11] * 600, [0] * 600):
                self.assertEqual(ranked(rules, bytes_of(three), ranks), [-1])
        for ranks in ([0], [1], [0] * 600):
            self.assertEqual(ranked(0, [], ranks), [-1])
            self.assertEqual(ranked(1, bytes_of("law a: -> p\n"), ranks), [-1])
        for ranks in ([1] * 9, [1] * 11):
            self.assertEqual(ranked(1023, bytes_of(CHAIN), ranks), [-1])


class Kept(RankedCase):
    def test_what_is_handed_in_stays_and_a_second_call_answers_alike(self):
        texts = [bytes_of("rule a: => p\nrule b: => ~p\nweigh a > b\n"), bytes_of("rule a: => p\nrule b: => ~p\n"),
                 [], bytes_of("law\n"), full_text(8193)]
        rows = [[], [0, 0], [1, 0], [1, 2], [2, 1], [11, 0], [0, 0, 0]]
        asked = list(itertools.product(range(5), texts, rows))
        firsts = []
        for rules, t, ranks in asked:
            before = (list(t), list(ranks))
            firsts.append(ranked(rules, t, ranks))
            self.assertEqual((t, ranks), before)
        self.assertEqual([ranked(*one) for one in asked], firsts)
        for answer in firsts:
            self.assertIs(type(answer), list)
            self.assertTrue(all(type(number) is int for number in answer), answer)

    def test_what_is_given_back_is_the_callers_own(self):
        for rules, ranks in [(1, [1]), (1, [0]), (2, [0])]:
            first = ranked(rules, bytes_of("rule a: => p\n"), ranks)
            again = list(first)
            first.append(9)
            first[0] = 9
            self.assertEqual(ranked(rules, bytes_of("rule a: => p\n"), ranks), again)


if __name__ == "__main__":
    unittest.main()

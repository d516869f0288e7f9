"""reasoned: which reasons it takes, each fault of ranked and of derived and which comes first, where it refuses."""

import itertools
import random
import time
import unittest

from reasonhall.desk import derived, ranked, reason, reasoned
from tests.helper import (
    CHAIN, WEIGHED_CHAIN, PlainCase, bytes_of, clause, full_text, long_chain, random_text, with_weights,
)

HIGHEST = 4294967295
YES = [0, 1]

# a strikes b, b strikes c. Atoms a 0, b 1, c 2, p 3, q 4, r 5, s 6; laws v 0, w 1, x 2, y 3; rules a 0, b 1, c 2.
# a, c, p, r, s and ~b stand.
SMALL = "rule a: => p\nrule b: => q\nrule c: => r\nlaw v: a -> ~b\nlaw w: b -> ~c\nlaw x: p, r -> s\nlaw y: -> p\n"
SMALL += "weigh a > b\nweigh b > c\n"
A, B, C, P, Q, R, S = 0, 2, 4, 6, 8, 10, 12
NOT_B = 3


class ReasonedCase(unittest.TestCase):
    def assert_taken(self, text, literal, rules, ranks, steps):
        answer = reasoned(literal, rules, bytes_of(text), ranks, steps)
        self.assertEqual(answer, YES, (text, literal, rules, ranks, steps))

    def assert_fault(self, text, literal, rules, ranks, steps, *fault):
        answer = reasoned(literal, rules, bytes_of(text), ranks, steps)
        self.assertEqual(answer, [0, 0] + list(fault), (text, literal, rules, ranks, steps))


class Taken(ReasonedCase):
    def test_a_small_case(self):
        self.assert_taken(SMALL, R, 5, [1, 0, 2], [2, 2])
        self.assert_taken(SMALL, C, 5, [1, 0, 2], [0, 2])
        self.assert_taken(SMALL, S, 5, [1, 0, 2], [1, 3, 2, 2, 1, 2])
        self.assert_taken(SMALL, A, 1, [1, 0, 0], [0, 0])
        self.assert_taken(SMALL, NOT_B, 1, [1, 0, 0], [0, 0, 1, 0])
        self.assert_taken(SMALL, P, 0, [0, 0, 0], [1, 3])

    def test_the_empty_set(self):
        self.assert_taken("law x: -> p\n", 0, 0, [], [1, 0])
        self.assert_taken("law x: -> p\nrule a: => ~a\n", 2, 0, [0], [1, 0])

    def test_the_one_told_of_the_small_case(self):
        told = [literal for literal in range(14) if reason(literal, bytes_of(SMALL))[0] == 0]
        self.assertEqual(told, [A, NOT_B, C, P, R, S])
        for literal in told:
            row = reason(literal, bytes_of(SMALL))
            self.assert_taken(SMALL, literal, row[1], row[2:5], row[5:])

    def test_other_ranks_than_those_told(self):
        self.assertEqual(reason(R, bytes_of(SMALL)), [0, 5, 1, 0, 2, 2, 2])
        for one, two in itertools.combinations(range(1, 11), 2):
            self.assert_taken(SMALL, R, 5, [one, 0, two], [2, 2])
            self.assert_taken(SMALL, S, 5, [one, 0, two], [1, 3, 2, 2, 1, 2])

    def test_other_steps_than_those_told(self):
        self.assertEqual(reason(S, bytes_of(SMALL)), [0, 5, 1, 0, 2, 1, 3, 2, 2, 1, 2])
        for steps in ([2, 2, 1, 3, 1, 2], [2, 0, 2, 2, 1, 2], [2, 2, 2, 0, 1, 2]):
            self.assert_taken(SMALL, S, 5, [1, 0, 2], steps)

    def test_other_sets_than_the_one_told(self):
        # p follows from the laws alone, from {a} and from {a, c} as well.
        self.assertEqual(reason(P, bytes_of(SMALL)), [0, 0, 0, 0, 0, 1, 3])
        self.assert_taken(SMALL, P, 1, [1, 0, 0], [1, 3])
        self.assert_taken(SMALL, P, 1, [1, 0, 0], [2, 0])
        self.assert_taken(SMALL, P, 5, [1, 0, 2], [2, 0])
        self.assert_taken(SMALL, NOT_B, 5, [3, 0, 9], [0, 0, 1, 0])
        # As many rules of a greater number.
        text = "rule a: => p\nrule b: q => p\nlaw x: -> q\n"
        self.assertEqual(reason(4, bytes_of(text)), [0, 1, 1, 0, 2, 0])
        self.assert_taken(text, 4, 2, [0, 1], [1, 0, 2, 1])
        self.assert_taken(text, 4, 3, [7, 7], [1, 0, 2, 1])

    def test_the_chain(self):
        case = PlainCase(WEIGHED_CHAIN)
        ranks = [1, 0, 2, 0, 3, 0, 4, 0, 5, 0]
        for place, name in enumerate("acegi"):
            # All of the ground is a reason for each of its literals.
            self.assert_taken(WEIGHED_CHAIN, case.number("h" + name), 0b101010101, ranks, [2, 2 * place])
            self.assert_taken(WEIGHED_CHAIN, case.number(name), 0b101010101, ranks, [0, 2 * place])
        self.assert_taken(WEIGHED_CHAIN, case.number("hi"), 0b101010101, [6, 0, 7, 0, 8, 0, 9, 0, 10, 0], [2, 8])

    def test_what_reason_tells_for_every_literal_that_stands(self):
        source = random.Random(21)
        taken = 0
        for _ in range(250):
            text = with_weights(source, random_text(source, ["c", "e", "p-p"], 5, 5, 3), 5)
            case, t = PlainCase(text), bytes_of(text)
            count = len(case.rules)
            for literal in case.literals():
                row = reason(literal, t)
                self.assertEqual(row[0] == 0, case.stands(literal), (text, literal))
                if row[0] == 0:
                    self.assert_taken(text, literal, row[1], row[2:2 + count], row[2 + count:])
                    taken += 1
        self.assertGreater(taken, 500)

    def test_what_reason_tells_in_cases_of_ten_rules(self):
        source = random.Random(22)
        taken, highest = 0, 0
        for _ in range(8):
            way = source.sample("abcdefghij", 10)
            text = "".join(f"rule {name}: => h{name}\n" for name in "abcdefghij")
            pairs = list(zip(way, way[1:])) + list(zip(way, way[3:]))
            text += "".join(f"law x{n:02}: {one} -> ~{two}\n" for n, (one, two) in enumerate(pairs)
                            if source.random() < 0.8)
            text += "".join(f"weigh {one} > {two}\n" for one, two in zip(way, way[1:]))
            case, t = PlainCase(text), bytes_of(text)
            for literal in case.literals():
                row = reason(literal, t)
                if row[0] == 0:
                    self.assert_taken(text, literal, row[1], row[2:12], row[12:])
                    highest = max(highest, *row[2:12])
                    taken += 1
        self.assertGreater(taken, 50)
        self.assertGreaterEqual(highest, 3)


class FaultsOfTheRanking(ReasonedCase):
    def test_0_a_bit_that_is_no_rules(self):
        for rules in (8, 13, 1024, 2147483648, HIGHEST):
            self.assert_fault(SMALL, R, rules, [1, 0, 2], [2, 2], 1, 0, 0)
            self.assert_fault(SMALL, P, rules, [0, 0, 0], [1, 3], 1, 0, 0)
        for rules in (1, 2, HIGHEST):
            self.assert_fault("law x: -> p\n", 0, rules, [], [1, 0], 1, 0, 0)

    def test_1_a_rank_that_does_not_fit(self):
        self.assert_fault(SMALL, R, 5, [1, 1, 2], [2, 2], 1, 1, 1)
        self.assert_fault(SMALL, R, 5, [0, 0, 2], [2, 2], 1, 1, 0)
        self.assert_fault(SMALL, R, 5, [1, 0, 0], [2, 2], 1, 1, 2)
        self.assert_fault(SMALL, R, 5, [1, 0, 11], [2, 2], 1, 1, 2)
        self.assert_fault(SMALL, R, 5, [11, 0, HIGHEST], [2, 2], 1, 1, 0)
        self.assert_fault(SMALL, P, 0, [0, 0, 1], [1, 3], 1, 1, 2)
        self.assert_taken(SMALL, R, 5, [1, 0, 10], [2, 2])

    def test_2_a_rule_that_is_not_defended(self):
        self.assert_fault(SMALL, R, 5, [1, 0, 1], [2, 2], 1, 2, 2)
        self.assert_fault(SMALL, R, 5, [2, 0, 1], [2, 2], 1, 2, 2)
        self.assert_fault(SMALL, R, 4, [0, 0, 1], [2, 2], 1, 2, 2)
        self.assert_fault(SMALL, Q, 2, [0, 1, 0], [2, 1], 1, 2, 1)
        self.assert_fault(SMALL, Q, 7, [1, 2, 3], [2, 1], 1, 2, 1)

    def test_2_for_what_follows_but_does_not_stand(self):
        text = "rule a: => p\nrule b: => ~p\n"
        for rank in range(1, 11):
            self.assert_fault(text, 4, 1, [rank, 0], [2, 0], 1, 2, 0)
            self.assert_fault(text, 5, 2, [0, rank], [2, 1], 1, 2, 1)
        self.assert_fault(text + "weigh a > b\n", 5, 2, [0, 1], [2, 1], 1, 2, 1)
        self.assert_taken(text + "weigh a > b\n", 4, 1, [1, 0], [2, 0])
        for name in "abcdefghij":
            number = "abcdefghij".index(name)
            ranks = [1 if one == number else 0 for one in range(10)]
            literal = PlainCase(CHAIN).number("h" + name)
            self.assert_fault(CHAIN, literal, 1 << number, ranks, [2, number], 1, 2, number)


class FaultsOfTheDerivation(ReasonedCase):
    def test_1_a_step_that_cannot_be(self):
        self.assert_fault(SMALL, R, 5, [1, 0, 2], [3, 2], 2, 1, 0)
        self.assert_fault(SMALL, R, 5, [1, 0, 2], [HIGHEST, HIGHEST], 2, 1, 0)
        self.assert_fault(SMALL, S, 5, [1, 0, 2], [1, 3, 2, 2, 1, 4], 2, 1, 2)
        self.assert_fault(SMALL, S, 5, [1, 0, 2], [1, 3, 2, 3, 1, 2], 2, 1, 1)
        self.assert_fault(SMALL, S, 5, [1, 0, 2], [0, 3, 2, 2, 1, 2], 2, 1, 0)

    def test_1_a_rule_that_is_not_in_the_set(self):
        self.assert_fault(SMALL, R, 1, [1, 0, 0], [2, 2], 2, 1, 0)
        self.assert_fault(SMALL, Q, 5, [1, 0, 2], [2, 1], 2, 1, 0)
        self.assert_fault(SMALL, P, 0, [0, 0, 0], [2, 0], 2, 1, 0)
        self.assert_fault(SMALL, A, 0, [0, 0, 0], [0, 0], 2, 1, 0)

    def test_2_a_body_that_is_not_yielded_before(self):
        self.assert_fault(SMALL, S, 5, [1, 0, 2], [1, 2], 2, 2, 0)
        self.assert_fault(SMALL, S, 5, [1, 0, 2], [2, 2, 1, 2, 1, 3], 2, 2, 1)

    def test_3_a_literal_yielded_again(self):
        self.assert_fault(SMALL, S, 5, [1, 0, 2], [1, 3, 2, 0, 2, 2, 1, 2], 2, 3, 1)
        self.assert_fault(SMALL, R, 5, [1, 0, 2], [2, 2, 2, 2], 2, 3, 1)

    def test_4_no_steps_256_and_257(self):
        for literal in range(14):
            self.assert_fault(SMALL, literal, 5, [1, 0, 2], [], 2, 4, 0)
        self.assert_fault(SMALL, P, 0, [0, 0, 0], [1, 3] * 256, 2, 3, 1)
        self.assert_fault(SMALL, P, 0, [0, 0, 0], [1, 3] * 257, 2, 4, 0)
        self.assert_fault(SMALL, P, 0, [0, 0, 0], [3, 0] * 256, 2, 1, 0)
        self.assert_fault(SMALL, P, 0, [0, 0, 0], [3, 0] * 257, 2, 4, 0)
        self.assert_fault(SMALL, P, 0, [0, 0, 0], [1, 3] * 300, 2, 4, 0)

    def test_5_a_step_that_no_later_one_needs(self):
        self.assert_fault(SMALL, R, 5, [1, 0, 2], [1, 3, 2, 2], 2, 5, 0)
        self.assert_fault(SMALL, S, 5, [1, 0, 2], [1, 3, 0, 0, 2, 2, 1, 2], 2, 5, 1)
        # Rules of the set that only help need no step, and may have none.
        self.assert_fault(SMALL, R, 5, [1, 0, 2], [0, 0, 2, 2], 2, 5, 0)

    def test_6_another_literal(self):
        self.assert_fault(SMALL, S, 5, [1, 0, 2], [2, 2], 2, 6, 0)
        self.assert_fault(SMALL, R, 5, [1, 0, 2], [1, 3, 2, 2, 1, 2], 2, 6, 2)
        self.assert_fault(SMALL, R + 1, 5, [1, 0, 2], [2, 2], 2, 6, 0)

    def test_the_same_as_derived_tells(self):
        t = bytes_of(SMALL)
        for steps in itertools.product(itertools.product(range(4), range(4)), repeat=2):
            row = [number for step in steps for number in step]
            for literal in (P, R, NOT_B):
                answer = derived(5, literal, t, row)
                expected = YES if answer == YES else [0, 0, 2] + answer[2:]
                self.assertEqual(reasoned(literal, 5, t, [1, 0, 2], row), expected, (literal, row))


class WhichFaultComesFirst(ReasonedCase):
    RANKINGS = [(13, [1, 0, 2], (0, 0)), (5, [1, 3, 2], (1, 1)), (5, [1, 0, 0], (1, 2)), (5, [1, 0, 11], (1, 2)),
                (5, [1, 0, 1], (2, 2)), (7, [1, 2, 3], (2, 1)), (4, [0, 0, 1], (2, 2))]

    def test_the_rankings_goes_before_the_derivations(self):
        rows = [[], [3, 0], [1, 9], [2, 1], [1, 2], [2, 2, 2, 2], [1, 3, 2, 2], [1, 3], [1, 3] * 256, [1, 3] * 257]
        for rules, ranks, fault in self.RANKINGS:
            for row in [[2, 2]] + rows:
                self.assert_fault(SMALL, R, rules, ranks, row, 1, *fault)
        for row in rows:
            answer = derived(5, R, bytes_of(SMALL), row)
            self.assert_fault(SMALL, R, 5, [1, 0, 2], row, 2, *answer[2:])

    def test_the_same_as_ranked_tells(self):
        t = bytes_of(SMALL)
        for rules in range(9):
            for ranks in itertools.product((0, 1, 2, 3, 11), repeat=3):
                answer = ranked(rules, t, list(ranks))
                for row in ([1, 3], []):
                    expected = YES if row else [0, 0, 2, 4, 0]
                    if answer != YES:
                        expected = [0, 0, 1] + answer[2:]
                    self.assertEqual(reasoned(P, rules, t, list(ranks), row), expected, (rules, ranks, row))


class AgainstTheSecondReading(ReasonedCase):
    def asked(self, source, case, rules):
        """Some ranks, a literal and steps to ask of the set, right and wrong."""
        size = len(case.rules)
        ground = case.ground_ranks()
        ranks = [(ground[one] or 9) if rules >> one & 1 else 0 for one in range(size)]
        if source.random() < 0.2:
            ranks[source.randrange(size)] = source.choice([0, 1, 2, 10, 11, HIGHEST])
        literal = source.choice(list(case.rounds(rules)) or [0])
        row = case.told(rules, literal) or []
        if source.random() < 0.5:
            place = 2 * source.randrange(len(row) // 2) if row else 0
            before, own, behind = row[:place], row[place:place + 2], row[place + 2:]
            other = [source.randrange(3), source.randrange(4)]
            row = source.choice([before + behind, before + other + own + behind, own + behind + before,
                                 before + [2, source.randrange(size)] + behind])
        if source.random() < 0.2:
            literal = source.choice(case.literals())
        return literal, ranks, row

    def test_cases_made_up(self):
        source = random.Random(23)
        seen = {}
        for _ in range(120):
            text = with_weights(source, random_text(source, ["c", "e"], 5, 4, 2), 3)
            case, t = PlainCase(text), bytes_of(text)
            if not case.rules:
                continue
            ground = case.ground()
            for rules in list(case.sets()) + [ground] * 10 + [1 << len(case.rules), HIGHEST]:
                literal, ranks, row = self.asked(source, case, rules if rules in case.sets() else 0)
                fault = case.reason_fault(literal, rules, ranks, row)
                answer = reasoned(literal, rules, t, ranks, row)
                self.assertEqual(answer, YES if fault is None else [0, 0] + fault, (text, literal, rules, ranks, row))
                if fault is None:
                    self.assertTrue(case.stands(literal), (text, literal))
                seen[tuple(answer[:4])] = seen.get(tuple(answer[:4]), 0) + 1
        kinds = [(0, 1)] + [(0, 0, 1, kind) for kind in range(3)] + [(0, 0, 2, kind) for kind in range(1, 7)]
        self.assertEqual(sorted(seen), sorted(kinds))
        self.assertGreater(min(seen.values()), 5, seen)
        self.assertGreater(seen[(0, 1)], 300)


class Size(ReasonedCase):
    def test_ten_rules_and_64_laws(self):
        text = long_chain() + "".join(f"weigh a > {name}\n" for name in "bcdefghij")
        literal = PlainCase(text).number("y52")
        row = reason(literal, bytes_of(text))
        self.assertEqual(len(row), 2 + 10 + 2 * 53)
        start = time.perf_counter()
        self.assert_taken(text, literal, row[1], row[2:12], row[12:])
        self.assert_fault(text, literal, 1023, list(range(1, 11)), row[12:], 1, 2, 1)
        self.assertLess(time.perf_counter() - start, 8)

    def test_many_steps(self):
        # Ten rules that nothing strikes, and 53 laws one behind another.
        heads = [f"y{place:02}" for place in range(54)]
        text = "".join(clause("rule", name, "", heads[0] if name == "a" else name) for name in "abcdefghij")
        for place in range(53):
            name = f", {'abcdefghij'[place]}" if place < 10 else ""
            text += clause("law", f"l{place:02}", heads[place] + name, heads[place + 1])
        case, t = PlainCase(text), bytes_of(text)
        self.assertEqual((len(case.atoms), len(case.rules), len(case.laws)), (64, 10, 53))
        last = case.number("y53")
        steps = [number for rule in range(10) for number in (0, rule)] + [2, 0]
        steps += [number for law in range(53) for number in (1, law)]
        self.assertEqual(len(steps), 2 * 64)
        self.assert_taken(text, last, 1023, [1] * 10, steps)
        self.assert_taken(text, last, 1023, list(range(1, 11)), steps)
        self.assert_fault(text, last, 1023, [1] * 9 + [11], steps, 1, 1, 9)
        self.assert_fault(text, last, 1023, [1] * 10, steps + [2, 1], 2, 3, 64)
        self.assertEqual(reasoned(last, 511, t, [1] * 9 + [0], steps), [0, 0, 2, 1, 9])


class Refused(ReasonedCase):
    def test_a_text_of_8192_bytes_and_of_more(self):
        self.assertEqual(reasoned(0, 1, full_text(8192), [1, 0], [0, 0]), YES)
        for length in (8193, 8194, 8300):
            for literal, rules, ranks in [(0, 1, [1, 0]), (HIGHEST, 1, [1, 0]), (0, 4, [1, 0]), (0, 1, []), (9, 9, [])]:
                self.assertEqual(reasoned(literal, rules, full_text(length), ranks, [0, 0]), [-1])

    def test_a_text_too_long_goes_before_no_case(self):
        for t in ([10] * 8193, [0] * 8300, full_text(8192) + [119]):
            self.assertEqual(reasoned(0, 0, t, [], []), [-1])
            self.assertEqual(reasoned(0, 1, t, [1, 0], [0, 0]), [-1])

    def test_no_case_goes_before_the_literal_and_the_ranks(self):
        for t in ([10], [255], bytes_of("rule a: => p"), bytes_of("law a: -> p\nlaw b: -> ~p\n"),
                  bytes_of("rule a: => p\nweigh a > a\n"), full_text(8191) + [119]):
            for literal, rules, ranks in [(0, 0, []), (0, 1, [1]), (HIGHEST, HIGHEST, [1, 2, 3]), (9, 0, [0] * 600)]:
                self.assertEqual(reasoned(literal, rules, t, ranks, [0, 0]), [-6])

    def test_a_literal_that_there_is_not(self):
        t = bytes_of(SMALL)
        self.assertEqual(reasoned(13, 5, t, [1, 0, 2], [2, 2]), [0, 0, 2, 6, 0])
        for literal in (14, 15, 127, 128, HIGHEST):
            # Before whatever fault the rest has.
            for rules, ranks, steps in [(5, [1, 0, 2], [2, 2]), (8, [1, 0, 2], [2, 2]), (5, [1, 1, 11], []),
                                        (HIGHEST, [], [9, 9]), (2, [0, 1, 0], [2, 1])]:
                self.assertEqual(reasoned(literal, rules, t, ranks, steps), [-1])

    def test_not_as_many_ranks_as_rules(self):
        t = bytes_of(SMALL)
        for literal, rules, steps in [(R, 5, [2, 2]), (P, 0, [1, 3]), (R, 8, [2, 2]), (R, HIGHEST, []), (Q, 2, [2, 1])]:
            for ranks in ([], [1], [1, 0], [1, 0, 2, 0], [0] * 10, [11] * 600):
                self.assertEqual(reasoned(literal, rules, t, ranks, steps), [-1])
        t = bytes_of("law x: -> p\n")
        self.assertEqual(reasoned(0, 0, t, [], [1, 0]), YES)
        for ranks in ([0], [1], [0] * 600):
            self.assertEqual(reasoned(0, 0, t, ranks, [1, 0]), [-1])

    def test_the_empty_case_has_no_literal(self):
        for literal, rules, ranks, steps in itertools.product((0, 1, HIGHEST), (0, 1), ([], [0]), ([], [0, 0])):
            self.assertEqual(reasoned(literal, rules, [], ranks, steps), [-1])

    def test_a_set_with_a_bit_that_is_no_rules_is_no_refusal(self):
        self.assertEqual(reasoned(R, HIGHEST, bytes_of(SMALL), [1, 0, 2], [2, 2]), [0, 0, 1, 0, 0])


class Kept(ReasonedCase):
    def test_what_is_handed_in_stays_and_a_second_call_answers_alike(self):
        texts = [bytes_of("rule a: => p\nrule b: => ~p\nweigh a > b\n"), bytes_of("rule a: => p\nrule b: => ~p\n"),
                 [], bytes_of("law\n"), full_text(8193)]
        rows = [[], [0, 0], [1, 0], [1, 2], [11, 0], [0, 0, 0]]
        steps = [[], [0, 0], [2, 0], [0, 0, 2, 0], [2, 1]]
        asked = list(itertools.product((0, 4, 5, 6), (0, 1, 3, 4), texts, rows, steps))
        firsts = []
        for literal, rules, t, ranks, row in asked:
            before = (list(t), list(ranks), list(row))
            firsts.append(reasoned(literal, rules, t, ranks, row))
            self.assertEqual((t, ranks, row), before)
        self.assertEqual([reasoned(*one) for one in asked], firsts)
        self.assertIn(YES, firsts)
        for answer in firsts:
            self.assertIs(type(answer), list)
            self.assertTrue(all(type(number) is int for number in answer), answer)

    def test_what_is_given_back_is_the_callers_own(self):
        for rules, ranks in [(1, [1]), (1, [0]), (2, [0]), (0, [0])]:
            first = reasoned(0, rules, bytes_of("rule a: => p\n"), ranks, [0, 0])
            again = list(first)
            first.append(9)
            first[0] = 9
            self.assertEqual(reasoned(0, rules, bytes_of("rule a: => p\n"), ranks, [0, 0]), again)


if __name__ == "__main__":
    unittest.main()

"""The four promises together, over small cases gone through whole: all sets, all literals, all derivations from all
the rules, all ranks up to as many as the set has rules. What the calls answer is held against itself, and only what
follows and what the ground is against the second reading."""

import itertools
import unittest

from reasonhall.desk import derive, derived, doubt, doubted, ranked, reason, reasoned, round_of
from tests.helper import PlainCase, bytes_of, clause, fault_of, weight_rows

YES = [0, 1]
NONE_THERE = [-3]


class Promises(unittest.TestCase):
    def rank_rows(self, size, rules):
        choices = [range(1, rules.bit_count() + 1) if rules >> one & 1 else [0] for one in range(size)]
        return [list(ranks) for ranks in itertools.product(*choices)]

    def check_promise_1(self, case, t, rows):
        """A literal follows just if there's a derivation of it; the one told is one."""
        for rules in case.sets():
            follows = case.rounds(rules)
            found = {literal for literal, row in rows if derived(rules, literal, t, row) == YES}
            self.assertEqual(found, set(follows), (bytes(t), rules))
            for literal in case.literals():
                told = derive(rules, literal, t)
                if literal in follows:
                    self.assertEqual(told[0], 0, (bytes(t), rules, literal))
                    self.assertEqual(derived(rules, literal, t, told[1:]), YES, (bytes(t), rules, literal))
                    self.assertIn((literal, told[1:]), rows)
                    self.assertEqual(round_of(rules, literal, t), [0, follows[literal]])
                else:
                    self.assertEqual(told, NONE_THERE, (bytes(t), rules, literal))
                    self.assertEqual(round_of(rules, literal, t), NONE_THERE)

    def check_promise_2(self, case, t, rankings):
        """Every ranked set is within the ground, which with its own ranks is one; two together can be ranked."""
        ranks = case.ground_ranks()
        ground = case.ground()
        self.assertEqual(ranked(ground, t, ranks), YES, bytes(t))
        self.assertIn((ground, ranks), rankings)
        found = {rules for rules, _ in rankings}
        for one, other in itertools.product(found, repeat=2):
            self.assertEqual(one & ~ground, 0, bytes(t))
            self.assertIn(one | other, found, bytes(t))

    def check_promise_3(self, case, t, rows):
        """A literal stands just if there's a reason; the one told is one, and none has fewer rules. Gives back of
        each literal that has reasons their sets."""
        size = len(case.rules)
        found = {}
        for rules in case.sets():
            for ranks, (literal, row) in itertools.product(self.rank_rows(size, rules), rows):
                if reasoned(literal, rules, t, ranks, row) == YES:
                    found.setdefault(literal, []).append(rules)
        self.assertEqual(set(found), set(case.rounds(case.ground())), bytes(t))
        for literal in case.literals():
            told = reason(literal, t)
            if literal in found:
                self.assertEqual(reasoned(literal, told[1], t, told[2:2 + size], told[2 + size:]), YES, bytes(t))
                self.assertEqual(told[1].bit_count(), min(rules.bit_count() for rules in found[literal]), bytes(t))
            else:
                self.assertEqual(told, NONE_THERE, (bytes(t), literal))
        return found

    def check_promise_4(self, case, t, stand):
        """It doesn't stand just if there's a doubt; the one told is one. Gives back of each literal its doubts."""
        ground = case.ground()
        # No other number that a set might be is a doubt; two with a bit that's no rule's stand for these.
        tried = list(case.sets()) + [1 << len(case.rules), ground | 1 << len(case.rules)]
        found = {}
        for literal in case.literals():
            doubts = [rules for rules in tried if doubted(literal, rules, t) == YES]
            self.assertEqual(len(doubts) > 0, literal not in stand, (bytes(t), literal))
            if doubts:
                found[literal] = doubts
                self.assertEqual(doubt(literal, t), [0, ground], (bytes(t), literal))
                self.assertIn(ground, doubts, (bytes(t), literal))
                # The ground is the least set that has all that it defends.
                self.assertTrue(all(ground & ~rules == 0 and rules in case.sets() for rules in doubts), bytes(t))
            else:
                self.assertEqual(doubt(literal, t), NONE_THERE, (bytes(t), literal))
        return found

    def check(self, text):
        """How many literals stand, how many don't, how many doubts there are besides the ground."""
        self.assertIsNone(fault_of(text), text)
        case, t = PlainCase(text), bytes_of(text)
        rows = case.derivations(len(case.sets()) - 1)
        sets = [(rules, ranks) for rules in case.sets() for ranks in self.rank_rows(len(case.rules), rules)]
        self.check_promise_1(case, t, rows)
        self.check_promise_2(case, t, [one for one in sets if ranked(one[0], t, one[1]) == YES])
        reasons = self.check_promise_3(case, t, rows)
        doubts = self.check_promise_4(case, t, set(case.rounds(case.ground())))
        for literal in case.literals():
            self.assertNotEqual(literal in reasons, literal in doubts, (text, literal))
        return [len(reasons), len(doubts), sum(len(row) - 1 for row in doubts.values())]

    def check_all(self, texts):
        texts = list(texts)
        return [len(texts)] + [sum(column) for column in zip(*[self.check(text) for text in texts])]

    def test_no_rules_and_one(self):
        laws = ["", "law x: -> p\n", "law x: -> ~a\n", "law x: p -> q\n", "law x: a -> ~p\n", "law x: ~a -> p\n"]
        options = itertools.product(["", "p", "a", "~a"], ["p", "~p", "a", "~a", "q"], laws)
        texts = laws[1:] + [clause("rule", "a", body, head) + law for body, head, law in options]
        count, stand, fall, others = self.check_all(texts)
        self.assertEqual(count, 125)
        self.assertGreater(min(stand, fall, others), 20)

    def test_two_rules(self):
        options = list(itertools.product(["", "p", "~b"], ["p", "~p", "~a"]))
        laws = ["", "law x: b -> ~p\n"]
        texts = [clause("rule", "a", *one) + clause("rule", "b", *two) + law + rows
                 for one, two in itertools.permutations(options, 2) for law in laws for rows in weight_rows("ab")]
        count, stand, fall, others = self.check_all(texts)
        self.assertEqual(count, 432)
        self.assertGreater(min(stand, fall, others), 300)

    def test_three_rules(self):
        # c's head needs a's; b strikes a, by its own head or by law.
        rules = "rule a: => p\nrule c: p => q\n"
        texts = [rules + clause("rule", "b", "", head) + law + rows for head, law in [
            ("~p", ""), ("r", "law x: b -> ~a\n"), ("~q", "law x: c -> ~b\n")] for rows in weight_rows("abc")]
        count, stand, fall, others = self.check_all(texts)
        self.assertEqual(count, 75)
        self.assertGreater(min(stand, fall, others), 100)

    def test_three_rules_that_strike_each_other_in_a_circle(self):
        rules = "rule a: => p\nrule b: => q\nrule c: q => p\n"
        laws = ["law v: a -> ~b\n", "law w: b -> ~c\n", "law x: c -> ~a\n"]
        texts = [rules + "".join(laws[:number]) + rows for number in (2, 3) for rows in weight_rows("abc")]
        count, stand, fall, others = self.check_all(texts)
        self.assertEqual(count, 50)
        self.assertGreater(min(stand, fall, others), 100)


if __name__ == "__main__":
    unittest.main()

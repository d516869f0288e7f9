"""derive and round_of: what they tell, where they refuse, and that they keep and change nothing."""

import itertools
import random
import unittest

from reasonhall.desk import derive, round_of
from tests.helper import PlainCase, bytes_of, full_text, random_text

# Numbers: atoms a 0, b 1, p 2, q 3, r 4, s 5; laws x 0, y 1; rules a 0, b 1.
SMALL = "law x: -> p\nlaw y: p, q -> r\nrule a: p => q\nrule b: r, ~a => s\n"
P, Q, R, S = 4, 6, 8, 10


class Told(unittest.TestCase):
    def both(self, text, rules, literal):
        t = bytes_of(text)
        return derive(rules, literal, t), round_of(rules, literal, t)

    def test_a_small_case(self):
        self.assertEqual(self.both(SMALL, 0, P), ([0, 1, 0], [0, 1]))
        self.assertEqual(self.both(SMALL, 0, Q), ([-3], [-3]))
        self.assertEqual(self.both(SMALL, 1, Q), ([0, 1, 0, 2, 0], [0, 2]))
        self.assertEqual(self.both(SMALL, 1, R), ([0, 1, 0, 2, 0, 1, 1], [0, 3]))
        self.assertEqual(self.both(SMALL, 1, 0), ([0, 0, 0], [0, 1]))
        self.assertEqual(self.both(SMALL, 2, 0), ([-3], [-3]))
        self.assertEqual(self.both(SMALL, 2, 2), ([0, 0, 1], [0, 1]))
        self.assertEqual(self.both(SMALL, 2, Q), ([-3], [-3]))
        self.assertEqual(self.both(SMALL, 3, S), ([-3], [-3]))

    def test_opposites_are_literals_of_their_own(self):
        text = "law x: ~p -> ~q\nrule a: => ~p\nrule b: ~q => p\n"
        # a 0, b 2, p 4, ~p 5, q 6, ~q 7
        self.assertEqual(self.both(text, 1, 5), ([0, 2, 0], [0, 1]))
        self.assertEqual(self.both(text, 1, 7), ([0, 2, 0, 1, 0], [0, 2]))
        self.assertEqual(self.both(text, 1, 4), ([-3], [-3]))
        self.assertEqual(self.both(text, 3, 4), ([0, 2, 0, 1, 0, 2, 1], [0, 3]))
        self.assertEqual(self.both(text, 3, 5), ([0, 2, 0], [0, 1]))
        self.assertEqual(self.both(text, 3, 6), ([-3], [-3]))
        self.assertEqual(self.both(text, 3, 1), ([-3], [-3]))

    def test_nothing_further_follows_from_a_clash(self):
        text = "rule a: => p\nrule b: => ~p\nrule c: q => r\n"
        self.assertEqual(self.both(text, 7, 8), ([-3], [-3]))
        self.assertEqual(self.both(text, 7, 10), ([-3], [-3]))

    def test_the_name_of_a_rule_in_the_set_may_be_needed(self):
        text = "law x: a, ~b -> p\nrule a: q => r\nrule b: => ~b\n"
        # a 0, b 2, p 4
        self.assertEqual(self.both(text, 3, 4), ([0, 0, 0, 2, 1, 1, 0], [0, 2]))
        self.assertEqual(self.both(text, 1, 4), ([-3], [-3]))
        self.assertEqual(self.both(text, 2, 4), ([-3], [-3]))
        self.assertEqual(self.both(text, 2, 2), ([0, 0, 1], [0, 1]))

    def test_the_least_kind_then_the_least_number(self):
        kinds = "law z: -> a\nlaw y: -> p\nlaw x: a -> p\nrule a: => p\nrule b: => a\n"
        # a 0, b 2, p 4; laws x 0, y 1, z 2
        self.assertEqual(self.both(kinds, 0, 0), ([0, 1, 2], [0, 1]))
        self.assertEqual(self.both(kinds, 1, 0), ([0, 0, 0], [0, 1]))
        self.assertEqual(self.both(kinds, 2, 0), ([0, 1, 2], [0, 1]))
        self.assertEqual(self.both(kinds, 3, 4), ([0, 1, 1], [0, 1]))
        numbers = "rule c: => q\nrule b: => p\nrule d: q => r\nrule a: p => r\n"
        # a 0, b 2, c 4, d 6, p 8, q 10, r 12
        self.assertEqual(self.both(numbers, 15, 12), ([0, 2, 1, 2, 0], [0, 2]))
        self.assertEqual(self.both(numbers, 14, 12), ([0, 2, 2, 2, 3], [0, 2]))
        self.assertEqual(self.both(numbers, 13, 12), ([0, 2, 2, 2, 3], [0, 2]))

    def test_a_law_goes_before_a_rule_of_a_lesser_number(self):
        text = "rule a: q => p\nlaw z: r -> p\nlaw y: -> q\nlaw x: -> r\n"
        # a 0, p 2, q 4, r 6; laws x 0, y 1, z 2
        self.assertEqual(self.both(text, 1, 2), ([0, 1, 0, 1, 2], [0, 2]))

    def test_a_step_with_a_body_of_a_later_round_is_not_told(self):
        text = "law a: q -> p\nlaw b: r -> p\nlaw c: r -> q\nlaw d: -> r\n"
        # p 0, q 2, r 4: law a yields p too, but q is of round 2 as p is
        self.assertEqual(self.both(text, 0, 0), ([0, 1, 3, 1, 1], [0, 2]))
        self.assertEqual(self.both(text, 0, 2), ([0, 1, 3, 1, 2], [0, 2]))
        circle = "law a: q -> p\nlaw b: p -> q\nlaw c: r -> q\nlaw d: -> r\n"
        self.assertEqual(self.both(circle, 0, 0), ([0, 1, 3, 1, 2, 1, 0], [0, 3]))
        self.assertEqual(self.both(circle, 0, 2), ([0, 1, 3, 1, 2], [0, 2]))

    def test_what_yields_itself_does_not_follow(self):
        text = "law a: p -> p\nlaw b: q -> r\nlaw c: r -> q\nrule d: s => s\n"
        for literal in (2, 4, 6, 8):
            self.assertEqual(self.both(text, 1, literal), ([-3], [-3]))

    def test_needed_ones_by_rounds_then_by_numbers(self):
        text = "law z: -> b\nlaw y: -> ~c\nlaw x: -> d\nlaw w: b -> a\nlaw v: d, ~c -> g\nlaw u: ~e, a, b -> f\n"
        text += "rule r: a, d, b, ~c => ~e\n"
        # a 0, b 2, ~c 5, d 6, ~e 9, f 10, g 12, r 14; laws u 0, v 1, w 2, x 3, y 4, z 5
        self.assertEqual(self.both(text, 1, 10), ([0, 1, 5, 1, 4, 1, 3, 1, 2, 2, 0, 1, 0], [0, 4]))
        self.assertEqual(self.both(text, 0, 10), ([-3], [-3]))

    def test_a_long_chain(self):
        names = [f"n{number:02}" for number in range(64)]
        text = "law n00: -> n00\n" + "".join(f"law {b}: {a} -> {b}\n" for a, b in zip(names, names[1:]))
        row = [number for one in range(64) for number in (1, one)]
        self.assertEqual(self.both(text, 0, 126), ([0] + row, [0, 64]))
        self.assertEqual(self.both(text, 0, 127), ([-3], [-3]))

    def test_bodies_of_six(self):
        text = "".join(f"rule {name}: => ~{name}x\n" for name in "abcdef")
        text += "rule g: ~fx, ~ex, ~dx, ~cx, ~bx, ~ax => h\n"
        head = PlainCase(text).number("h")
        self.assertEqual(self.both(text, 127, head)[1], [0, 2])
        self.assertEqual(self.both(text, 127, head)[0], [0] + [n for one in range(7) for n in (2, one)])
        for left in range(7):
            self.assertEqual(self.both(text, 127 - 2 ** left, head), ([-3], [-3]))

    def test_numbers_go_by_bytes_a_beginning_first(self):
        names = ["a", "a-", "a--", "a-0", "a-a", "a0", "a9", "aa", "az", "b"]
        for order in (names, names[::-1], names[5:] + names[:5]):
            text = "".join(f"rule {name}: => {name}\n" for name in order)
            for place in range(10):
                self.assertEqual(self.both(text, 2 ** place, 2 * place), ([0, 0, place], [0, 1]))
                self.assertEqual(self.both(text, 1023 - 2 ** place, 2 * place), ([-3], [-3]))
                self.assertEqual(self.both(text, 1023, 2 * place + 1), ([-3], [-3]))
            text = "".join(f"law {name}: -> {name}\n" for name in order)
            for place in range(10):
                self.assertEqual(self.both(text, 0, 2 * place), ([0, 1, place], [0, 1]))

    def test_names_of_laws_are_no_atoms_and_names_of_rules_are(self):
        self.assertEqual(self.both("law a: -> p\n", 0, 0), ([0, 1, 0], [0, 1]))
        self.assertEqual(self.both("law a: -> p\n", 0, 2), ([-1], [-1]))
        self.assertEqual(self.both("rule a: => p\n", 1, 2), ([0, 2, 0], [0, 1]))

    def test_weights_change_nothing(self):
        for order in ("weigh a > b\n", "weigh b > a\n", "weigh a > b\n" * 3):
            for rules in range(4):
                for literal in range(12):
                    self.assertEqual(self.both(SMALL + order, rules, literal), self.both(SMALL, rules, literal))


class Promise1(unittest.TestCase):
    def check(self, text):
        case = PlainCase(text)
        t = bytes_of(text)
        for rules in case.sets():
            rounds = case.rounds(rules)
            for literal in case.literals():
                told, latest = derive(rules, literal, t), round_of(rules, literal, t)
                if literal in rounds:
                    self.assertEqual(told[0], 0, text)
                    self.assertTrue(case.is_derivation(rules, literal, told[1:]), (text, rules, literal, told))
                    self.assertEqual(told[1:], case.told(rules, literal), (text, rules, literal))
                    self.assertEqual(latest, [0, rounds[literal]], (text, rules, literal))
                else:
                    self.assertEqual((told, latest), ([-3], [-3]), (text, rules, literal))
        return case

    def check_least_sets(self, case, text):
        for rules in case.sets():
            answers = [literal for literal in case.literals() if derive(rules, literal, bytes_of(text)) != [-3]]
            self.assertEqual(answers, sorted(case.follows(rules)), (text, rules))

    def test_many_cases_of_few_atoms(self):
        source = random.Random(1)
        for _ in range(60):
            text = random_text(source, ["p", "q"], 3, 2, 2)
            self.check_least_sets(self.check(text), text)

    def test_many_cases_of_more_atoms(self):
        source = random.Random(2)
        for _ in range(60):
            self.check(random_text(source, ["c", "e", "p-p", "pq"], 9, 4, 3))

    def test_all_cases_of_two_rules_over_two_literals(self):
        bodies = ["", "p ", "a ", "p, b "]
        for one, two in itertools.product(itertools.product(bodies, ["p", "~p", "b"]), repeat=2):
            text = f"rule a: {one[0]}=> {one[1]}\nrule b: {two[0]}=> {two[1]}\n"
            if one != two:
                self.check_least_sets(self.check(text), text)

    def test_the_check_of_a_derivation_refuses_what_is_none(self):
        case = PlainCase(SMALL)
        self.assertTrue(case.is_derivation(1, R, [1, 0, 2, 0, 1, 1]))
        for row in [[], [1, 0, 2, 0], [2, 0, 1, 0, 1, 1], [1, 0, 1, 0, 2, 0, 1, 1], [0, 0, 1, 0, 2, 0, 1, 1],
                    [1, 0, 2, 0, 1, 1, 0, 0], [1, 0, 2, 0, 1], [3, 0], [1, 2], [0, 1, 1, 0, 2, 0, 1, 1]]:
            self.assertFalse(case.is_derivation(1, R, row), row)
        self.assertFalse(case.is_derivation(2, R, [1, 0, 2, 0, 1, 1]))


class Refused(unittest.TestCase):
    def assert_both(self, rules, literal, t, answer):
        self.assertEqual(derive(rules, literal, t), answer)
        self.assertEqual(round_of(rules, literal, t), answer)

    def test_the_empty_text_is_a_case_without_literals(self):
        for rules, literal in [(0, 0), (0, 1), (1, 0), (0, 4294967295), (4294967295, 0)]:
            self.assert_both(rules, literal, [], [-1])

    def test_a_text_of_8192_bytes_and_of_more(self):
        for length in (8180, 8191, 8192):
            t = full_text(length)
            self.assertEqual(len(t), length)
            self.assertEqual(derive(1, 4, t), [0, 2, 0])
            self.assertEqual(round_of(1, 4, t), [0, 1])
        for length in (8193, 8194, 8300):
            t = full_text(length)
            self.assertEqual(len(t), length)
            self.assert_both(1, 4, t, [-1])

    def test_a_text_too_long_goes_before_all(self):
        for t in ([10] * 8193, [0] * 8300, full_text(8192) + [119]):
            self.assert_both(0, 0, t, [-1])
            self.assert_both(4294967295, 4294967295, t, [-1])

    def test_no_case_goes_before_wrong_numbers(self):
        for t in ([10], [10] * 8192, [255], bytes_of(SMALL)[:-1], full_text(8191) + [119]):
            for rules, literal in [(0, 0), (4, 0), (0, 12), (4294967295, 4294967295)]:
                self.assert_both(rules, literal, t, [-6])

    def test_a_bit_that_is_no_rules(self):
        t = bytes_of(SMALL)
        self.assertEqual(derive(3, P, t), [0, 1, 0])
        for rules in (4, 5, 7, 8, 1024, 2147483648, 4294967295):
            self.assert_both(rules, P, t, [-1])
            self.assert_both(rules, Q + 1, t, [-1])
        ten = bytes_of("".join(f"rule {name}: => {name}\n" for name in "abcdefghij"))
        self.assertEqual(derive(1023, 18, ten), [0, 0, 9])
        self.assert_both(1024, 18, ten, [-1])
        self.assert_both(1, 0, bytes_of("law a: -> p\n"), [-1])

    def test_a_literal_that_there_is_not(self):
        t = bytes_of(SMALL)
        self.assert_both(0, 11, t, [-3])
        for literal in (12, 13, 4294967294, 4294967295):
            for rules in (0, 3, 4):
                self.assert_both(rules, literal, t, [-1])

    def test_64_atoms(self):
        heads = [f"x{number:02}" for number in range(64)]
        t = bytes_of("".join(f"law {name}: -> ~{name}\n" for name in heads))
        self.assertEqual(derive(0, 127, t), [0, 1, 63])
        self.assert_both(0, 126, t, [-3])
        self.assert_both(0, 128, t, [-1])


class Kept(unittest.TestCase):
    def test_what_is_handed_in_stays_and_a_second_call_answers_alike(self):
        small = [bytes_of(SMALL), bytes_of(SMALL + "weigh a > b\n")]
        asked = list(itertools.product((derive, round_of), range(5), range(13), small))
        others = [[], bytes_of("law\n"), bytes_of("law a: -> p\nlaw b: -> ~p\n"), full_text(8192), full_text(8193)]
        asked += list(itertools.product((derive, round_of), (0, 1), (0, 4), others))
        firsts = []
        for call, rules, literal, t in asked:
            before = list(t)
            firsts.append(call(rules, literal, t))
            self.assertEqual(t, before)
        self.assertEqual([call(rules, literal, t) for call, rules, literal, t in asked], firsts)

    def test_what_is_given_back_is_the_callers_own(self):
        t = bytes_of(SMALL)
        for call in (derive, round_of):
            first = call(1, R, t)
            again = list(first)
            first.append(9)
            first[0] = 9
            self.assertEqual(call(1, R, t), again)

    def test_answers_are_lists_of_whole_numbers(self):
        for rules, literal in itertools.product(range(5), range(13)):
            for call in (derive, round_of):
                answer = call(rules, literal, bytes_of(SMALL))
                self.assertIs(type(answer), list)
                self.assertTrue(all(type(number) is int for number in answer), answer)


if __name__ == "__main__":
    unittest.main()

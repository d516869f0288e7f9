"""derived: which steps it takes, each fault with its place and which comes first, where it refuses."""

import itertools
import random
import unittest

from reasonhall.desk import derive, derived
from tests.helper import PlainCase, bytes_of, full_text, random_text

# Numbers: atoms a 0, b 1, p 2, q 3, r 4, s 5; laws x 0, y 1; rules a 0, b 1.
SMALL = "law x: -> p\nlaw y: p, q -> r\nrule a: p => q\nrule b: r, ~a => s\n"
P, Q, R, S = 4, 6, 8, 10
HIGHEST = 4294967295
YES = [0, 1]


def no(kind, place):
    return [0, 0, kind, place]


def long_text():
    """Ten rules and 64 laws whose 84 steps can all be needed; a literal and its opposite follow each other."""
    literals = [f"{sign}z{number:02}" for number in range(37) for sign in ("", "~")]
    text = f"rule a: => {literals[0]}\n"
    for place in range(64):
        name = f", {'abcdefghij'[place]}" if place < 10 else ""
        text += f"law l{place:02}: {literals[place]}{name} -> {literals[place + 1]}\n"
    for place, name in enumerate("bcdefghij"):
        text += f"rule {name}: {literals[64 + place]} => {literals[65 + place]}\n"
    return text


def long_row():
    names = [number for rule in range(10) for number in (0, rule)]
    laws = [number for law in range(64) for number in (1, law)]
    heads = [number for rule in range(1, 10) for number in (2, rule)]
    return names + [2, 0] + laws + heads


class Taken(unittest.TestCase):
    def test_a_small_case(self):
        t = bytes_of(SMALL)
        self.assertEqual(derived(0, P, t, [1, 0]), YES)
        self.assertEqual(derived(1, 0, t, [0, 0]), YES)
        self.assertEqual(derived(2, 2, t, [0, 1]), YES)
        self.assertEqual(derived(1, Q, t, [1, 0, 2, 0]), YES)
        self.assertEqual(derived(3, R, t, [1, 0, 2, 0, 1, 1]), YES)

    def test_others_than_the_one_told(self):
        text = "law x: -> p\nlaw y: a -> p\nlaw z: q -> p\nrule a: => p\nrule b: => q\nrule c: p, q => r\n"
        # a 0, b 2, c 4, p 6, q 8, r 10
        t = bytes_of(text)
        self.assertEqual(derive(7, 10, t), [0, 1, 0, 2, 1, 2, 2])
        for row in ([1, 0, 2, 1, 2, 2], [2, 1, 1, 0, 2, 2], [0, 0, 1, 1, 2, 1, 2, 2],
                    [2, 0, 2, 1, 2, 2], [2, 1, 1, 2, 2, 2], [2, 1, 2, 0, 2, 2]):
            self.assertEqual(derived(7, 10, t, row), YES, row)

    def test_the_one_told_for_every_literal_that_follows(self):
        source = random.Random(3)
        taken = 0
        for _ in range(40):
            text = random_text(source, ["c", "e", "p-p"], 6, 4, 3)
            case, t = PlainCase(text), bytes_of(text)
            for rules in case.sets():
                for literal in case.rounds(rules):
                    row = derive(rules, literal, t)[1:]
                    self.assertEqual(derived(rules, literal, t, row), YES, (text, rules, literal))
                    other = (literal + 1) % len(case.literals())
                    self.assertEqual(derived(rules, other, t, row), no(6, len(row) // 2 - 1), (text, rules, literal))
                    taken += 1
        self.assertGreater(taken, 1000)

    def test_all_the_steps_that_there_are(self):
        text, row = long_text(), long_row()
        case, t = PlainCase(text), bytes_of(text)
        self.assertEqual((len(case.laws), len(case.rules), len(row)), (64, 10, 168))
        last = case.rules[9][2]
        self.assertEqual(derived(1023, last, t, row), YES)
        self.assertEqual(derived(1023, last, t, derive(1023, last, t)[1:]), YES)
        self.assertEqual(derived(1023, last ^ 1, t, row), no(6, 83))
        self.assertEqual(derived(511, last, t, row), no(1, 9))
        self.assertEqual(derived(1023, last, t, row[:-2]), no(6, 82))
        self.assertEqual(derived(1023, last, t, row[2:]), no(2, 10))


class Faults(unittest.TestCase):
    def assert_fault(self, rules, literal, row, kind, place):
        self.assertEqual(derived(rules, literal, bytes_of(SMALL), row), no(kind, place), row)

    def test_4_no_steps(self):
        self.assert_fault(0, P, [], 4, 0)
        self.assert_fault(1, Q, [], 4, 0)
        self.assert_fault(0, S, [], 4, 0)

    def test_4_more_than_256_steps(self):
        for step in ([1, 0], [1, 1], [3, 0], [HIGHEST, HIGHEST]):
            for count in (257, 258, 299, 300):
                self.assert_fault(0, P, step * count, 4, 0)

    def test_exactly_256_steps(self):
        for count in (2, 255, 256):
            self.assert_fault(0, P, [1, 0] * count, 3, 1)
            self.assert_fault(0, P, [1, 1] * count, 2, 0)
            self.assert_fault(0, P, [3, 0] * count, 1, 0)
            self.assert_fault(0, P, [1, 0] + [1, 2] * (count - 1), 1, 1)
        t, row = bytes_of(long_text()), long_row()
        last = PlainCase(long_text()).rules[9][2]
        self.assertEqual(derived(1023, last, t, row + [0, 0] * 172), no(3, 84))
        self.assertEqual(derived(1023, last, t, row + [0, 0] * 173), no(4, 0))

    def test_1_a_kind_above_2(self):
        for kind in (3, 4, 255, HIGHEST):
            for number in (0, 1, HIGHEST):
                self.assert_fault(3, P, [kind, number], 1, 0)
                self.assert_fault(3, P, [1, 0, kind, number], 1, 1)

    def test_1_a_number_that_is_not_there(self):
        for kind in (0, 1, 2):
            for number in (2, 3, 10, 64, 255, 4294967294, HIGHEST):
                self.assert_fault(3, P, [kind, number], 1, 0)
                self.assert_fault(3, P, [1, 0, 2, 0, kind, number], 1, 2)
        self.assertEqual(derived(1, 0, bytes_of("rule a: => p\n"), [1, 0]), no(1, 0))
        self.assertEqual(derived(0, 0, bytes_of("law a: -> p\n"), [0, 0]), no(1, 0))
        self.assertEqual(derived(0, 0, bytes_of("law a: -> p\n"), [2, 0]), no(1, 0))

    def test_1_a_rule_that_is_not_in_the_set(self):
        for kind in (0, 2):
            self.assert_fault(0, P, [kind, 0], 1, 0)
            self.assert_fault(2, P, [kind, 0], 1, 0)
            self.assert_fault(1, P, [1, 0, kind, 1], 1, 1)
        self.assert_fault(2, Q, [1, 0, 2, 0], 1, 1)
        for rules in range(4):
            self.assertEqual(derived(rules, P, bytes_of(SMALL), [1, 0]), YES)

    def test_2_a_body_not_yielded_before(self):
        self.assert_fault(1, Q, [2, 0], 2, 0)
        self.assert_fault(1, Q, [2, 0, 1, 0], 2, 0)
        self.assert_fault(1, R, [1, 0, 1, 1], 2, 1)
        self.assert_fault(1, R, [1, 1, 1, 0, 2, 0], 2, 0)
        # The name a is yielded, and ~a is another literal.
        self.assert_fault(3, S, [1, 0, 2, 0, 1, 1, 0, 0, 2, 1], 2, 4)
        self.assertEqual(derived(0, 0, bytes_of("law a: p -> p\n"), [1, 0]), no(2, 0))

    def test_3_yielded_before(self):
        self.assert_fault(0, P, [1, 0, 1, 0], 3, 1)
        self.assert_fault(1, R, [1, 0, 2, 0, 1, 0, 1, 1], 3, 2)
        self.assert_fault(1, 0, [0, 0, 1, 0, 0, 0], 3, 2)
        t = bytes_of("law x: -> a\nlaw y: -> p\nrule a: => p\n")
        self.assertEqual(derived(1, 2, t, [1, 1, 2, 0]), no(3, 1))
        self.assertEqual(derived(1, 0, t, [1, 0, 0, 0]), no(3, 1))
        self.assertEqual(derived(1, 0, t, [0, 0, 1, 0]), no(3, 1))

    def test_5_not_needed_by_a_later_one(self):
        self.assert_fault(1, Q, [0, 0, 1, 0, 2, 0], 5, 0)
        self.assert_fault(1, Q, [1, 0, 0, 0, 2, 0], 5, 1)
        self.assert_fault(1, 0, [1, 0, 2, 0, 0, 0], 5, 1)
        self.assert_fault(3, R, [1, 0, 0, 1, 2, 0, 0, 0, 1, 1], 5, 1)
        t = bytes_of("rule a: => p\nrule b: => ~p\nlaw x: p -> q\n")
        # The opposite of what's needed isn't needed. a 0, b 2, p 4, q 6
        self.assertEqual(derived(3, 6, t, [2, 1, 2, 0, 1, 0]), no(5, 0))
        self.assertEqual(derived(3, 6, t, [2, 0, 2, 1, 1, 0]), no(5, 1))

    def test_6_another_literal(self):
        for literal in range(12):
            if literal != P:
                self.assert_fault(0, literal, [1, 0], 6, 0)
            if literal != R:
                self.assert_fault(3, literal, [1, 0, 2, 0, 1, 1], 6, 2)

    def test_of_one_step_the_first_fault(self):
        # The body is not there, and the literal was yielded.
        t = bytes_of("law x: -> p\nlaw y: q -> p\nlaw z: p -> p\n")
        self.assertEqual(derived(0, 0, t, [1, 0, 1, 1]), no(2, 1))
        self.assertEqual(derived(0, 0, t, [1, 0, 1, 2]), no(3, 1))
        # Rule b is not in the set; else its body would be missing.
        self.assert_fault(1, S, [2, 1], 1, 0)
        self.assert_fault(3, S, [2, 1], 2, 0)

    def test_the_first_step_with_a_fault_of_its_own(self):
        self.assert_fault(1, R, [1, 1, 3, 0], 2, 0)
        self.assert_fault(1, R, [3, 0, 1, 1], 1, 0)
        self.assert_fault(1, P, [1, 0, 1, 0, 3, 0], 3, 1)
        self.assert_fault(1, P, [1, 0, 3, 0, 1, 0], 1, 1)
        self.assert_fault(1, P, [1, 0, 1, 0, 1, 1], 3, 1)
        self.assert_fault(1, P, [1, 0, 1, 1, 1, 0], 2, 1)

    def test_5_and_6_come_behind_those(self):
        # Step 0 is not needed; the last one has a fault of its own.
        self.assert_fault(1, S, [0, 0, 1, 0, 3, 0], 1, 2)
        self.assert_fault(1, S, [0, 0, 1, 0, 1, 1], 2, 2)
        self.assert_fault(1, S, [0, 0, 1, 0, 0, 0], 3, 2)
        # Step 0 is not needed, and another literal comes.
        self.assert_fault(1, S, [0, 0, 1, 0], 5, 0)
        self.assert_fault(1, 0, [0, 0, 1, 0], 5, 0)
        self.assert_fault(1, S, [1, 0, 2, 0], 6, 1)
        # None of the first two is needed.
        self.assert_fault(3, P, [0, 0, 0, 1, 1, 0], 5, 0)


class AgainstTheSecondReading(unittest.TestCase):
    def answer(self, case, rules, literal, row):
        fault = case.derivation_fault(rules, literal, row)
        return YES if fault is None else [0, 0] + fault

    def test_all_rows_of_up_to_three_steps(self):
        text = "law x: p -> a\nrule a: => p\nrule b: p, a => ~p\n"
        case, t = PlainCase(text), bytes_of(text)
        steps = [list(one) for one in itertools.product(range(4), range(3))]
        kinds = set()
        for count in range(4):
            for row in itertools.product(steps, repeat=count):
                row = sum(row, [])
                for rules in (1, 3):
                    for literal in (0, 4, 5):
                        answer = derived(rules, literal, t, row)
                        self.assertEqual(answer, self.answer(case, rules, literal, row), (rules, literal, row))
                        self.assertEqual(answer == YES, case.is_derivation(rules, literal, row))
                        if answer == YES:
                            self.assertIn(literal, case.rounds(rules))
                        kinds.add(tuple(answer[:3]))
        self.assertEqual(kinds, {(0, 1)} | {(0, 0, kind) for kind in range(1, 7)})

    def changed(self, source, row, case):
        row = list(row)
        place = 2 * source.randrange(len(row) // 2)
        step = [source.randrange(3), source.randrange(max(len(case.laws), len(case.rules)) + 1)]
        way = source.randrange(5)
        if way == 0:
            row[place:place + 2] = step
        elif way == 1:
            row[place:place] = step
        elif way == 2:
            del row[place:place + 2]
        elif way == 3:
            row += step
        else:
            other = 2 * source.randrange(len(row) // 2)
            row[place:place + 2], row[other:other + 2] = row[other:other + 2], row[place:place + 2]
        return row

    def test_derivations_told_and_then_changed(self):
        source = random.Random(4)
        kinds = {}
        for _ in range(60):
            text = random_text(source, ["c", "e", "p-p"], 6, 4, 3)
            case, t = PlainCase(text), bytes_of(text)
            for rules in case.sets():
                for literal in case.rounds(rules):
                    row = self.changed(source, derive(rules, literal, t)[1:], case)
                    answer = derived(rules, literal, t, row)
                    self.assertEqual(answer, self.answer(case, rules, literal, row), (text, rules, literal, row))
                    kinds[tuple(answer[:3])] = kinds.get(tuple(answer[:3]), 0) + 1
        self.assertGreater(min(kinds.values()), 20, kinds)
        self.assertEqual(len(kinds), 7, kinds)


class Refused(unittest.TestCase):
    def assert_refused(self, rules, literal, t, answer):
        for row in ([], [1, 0], [1, 0] * 257, [HIGHEST, HIGHEST]):
            self.assertEqual(derived(rules, literal, t, row), [answer])

    def test_a_text_of_8192_bytes_and_of_more(self):
        self.assertEqual(derived(1, 4, full_text(8192), [2, 0]), YES)
        for length in (8193, 8300):
            self.assert_refused(1, 4, full_text(length), -1)

    def test_a_text_too_long_goes_before_all(self):
        for t in ([10] * 8193, [0] * 8300, full_text(8192) + [119]):
            self.assert_refused(0, 0, t, -1)
            self.assert_refused(HIGHEST, HIGHEST, t, -1)

    def test_no_case_goes_before_wrong_numbers(self):
        for t in ([10], [255], bytes_of(SMALL)[:-1], bytes_of("law a: -> p\nlaw b: -> ~p\n"), full_text(8191) + [119]):
            for rules, literal in [(0, 0), (4, 0), (0, 12), (HIGHEST, HIGHEST)]:
                self.assert_refused(rules, literal, t, -6)

    def test_a_bit_that_is_no_rules(self):
        for rules in (4, 5, 7, 1024, HIGHEST):
            self.assert_refused(rules, P, bytes_of(SMALL), -1)
        self.assertEqual(derived(3, P, bytes_of(SMALL), [1, 0]), YES)

    def test_a_literal_that_there_is_not(self):
        for literal in (12, 13, HIGHEST):
            self.assert_refused(0, literal, bytes_of(SMALL), -1)
        self.assertEqual(derived(0, 11, bytes_of(SMALL), [1, 0]), no(6, 0))

    def test_the_empty_text_has_no_literal(self):
        self.assert_refused(0, 0, [], -1)


class Kept(unittest.TestCase):
    def test_what_is_handed_in_stays_and_a_second_call_answers_alike(self):
        texts = [bytes_of(SMALL), [], bytes_of("law\n"), full_text(8193)]
        rows = [[], [1, 0], [1, 0, 2, 0, 1, 1], [3, 3], [0, 0, 1, 0], [1, 0] * 257]
        asked = list(itertools.product(range(5), range(13), texts, rows))
        firsts = []
        for rules, literal, t, row in asked:
            before = (list(t), list(row))
            firsts.append(derived(rules, literal, t, row))
            self.assertEqual((t, row), before)
        self.assertEqual([derived(*one) for one in asked], firsts)
        for answer in firsts:
            self.assertIs(type(answer), list)
            self.assertTrue(all(type(number) is int for number in answer), answer)

    def test_what_is_given_back_is_the_callers_own(self):
        for row in ([1, 0], [1, 1]):
            first = derived(0, P, bytes_of(SMALL), row)
            again = list(first)
            first.append(9)
            first[0] = 9
            self.assertEqual(derived(0, P, bytes_of(SMALL), row), again)


if __name__ == "__main__":
    unittest.main()

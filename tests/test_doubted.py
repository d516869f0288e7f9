"""doubted: which sets it takes as doubts, which not, where it refuses."""

import itertools
import random
import time
import unittest

from reasonhall.desk import derive, doubt, doubted
from tests.helper import (
    CHAIN, WEIGHED_CHAIN, PlainCase, bytes_of, clause, full_text, long_chain, random_text, with_weights,
)

HIGHEST = 4294967295
YES = [0, 1]
NO = [0, 0]

# a and b strike each other, nothing strikes c; the ground is {c}, 4. Rules a 0, b 1, c 2.
PAIR = "rule a: => p\nrule b: => ~p\nrule c: => q\n"
# a strikes b, b strikes c; the ground is {a, c}, 5.
SMALL = "rule a: => p\nrule b: => q\nrule c: => r\nlaw v: a -> ~b\nlaw w: b -> ~c\nweigh a > b\nweigh b > c\n"


class DoubtedCase(unittest.TestCase):
    def taken(self, text, literal):
        """All sets that are taken as doubts that the literal, given by its name, stands; others answer 0."""
        case, t = PlainCase(text), bytes_of(text)
        answers = [doubted(case.number(literal), rules, t) for rules in case.sets()]
        self.assertTrue(all(answer in (YES, NO) for answer in answers), answers)
        return [rules for rules, answer in enumerate(answers) if answer == YES]

    def assert_answer(self, answer, text, literal, *sets):
        for rules in sets:
            number = PlainCase(text).number(literal)
            self.assertEqual(doubted(number, rules, bytes_of(text)), answer, (text, literal, rules))


class Taken(DoubtedCase):
    def test_what_doubt_tells(self):
        self.assert_answer(YES, PAIR, "p", 4)
        self.assert_answer(YES, PAIR, "~q", 4)
        self.assert_answer(YES, SMALL, "q", 5)
        self.assert_answer(YES, SMALL, "~r", 5)
        self.assert_answer(YES, "law x: -> p\n", "~p", 0)
        self.assert_answer(YES, CHAIN, "hb", 0)
        self.assert_answer(YES, WEIGHED_CHAIN, "hb", 0b101010101)

    def test_what_doubt_tells_for_every_literal_that_does_not_stand(self):
        source = random.Random(41)
        count = 0
        for _ in range(250):
            text = with_weights(source, random_text(source, ["c", "e", "p-p"], 5, 5, 3), 5)
            case, t = PlainCase(text), bytes_of(text)
            for literal in case.literals():
                told = doubt(literal, t)
                self.assertEqual(told[0] == 0, not case.stands(literal), (text, literal))
                if told[0] == 0:
                    self.assertEqual(doubted(literal, told[1], t), YES, (text, literal))
                    count += 1
        self.assertGreater(count, 500)

    def test_doubts_that_are_not_the_ground(self):
        # {a, c} and {b, c} are free and defend just their own.
        self.assert_answer(YES, PAIR, "~p", 5)
        self.assert_answer(YES, PAIR, "p", 6)
        self.assertEqual(self.taken(PAIR, "p"), [4, 6])
        self.assertEqual(self.taken(PAIR, "~p"), [4, 5])
        self.assertEqual(self.taken(PAIR, "a"), [4, 6])
        self.assertEqual(self.taken(PAIR, "b"), [4, 5])

    def test_doubts_that_clash(self):
        # All rules have all that they defend; nothing further follows from what clashes.
        self.assert_answer(YES, PAIR, "~q", 7)
        self.assertEqual(self.taken(PAIR, "~q"), [4, 5, 6, 7])
        self.assertEqual(self.taken(PAIR, "~a"), [4, 5, 6, 7])
        self.assertEqual(self.taken(SMALL, "~p"), [5, 7])
        self.assert_answer(YES, CHAIN, "~a", 1023)
        self.assert_answer(YES, CHAIN, "~ha", 1023)

    def test_doubts_that_do_not_defend_their_own(self):
        # d is struck by c, and nobody strikes c; {c, d} has all that it defends, c.
        text = "rule c: => p\nrule d: => ~p\nweigh c > d\n"
        self.assertEqual(self.taken(text, "~c"), [1, 3])
        self.assertEqual(self.taken(text, "~p"), [1])
        self.assertEqual(self.taken(text, "d"), [1])

    def test_sets_that_clash_by_one_rule(self):
        # The empty set strikes x, so nobody needs to.
        text = "rule x: => ~x\n"
        self.assertEqual(self.taken(text, "x"), [0])
        self.assertEqual(self.taken(text, "~x"), [0])
        self.assertEqual(self.taken(text + "rule c: => z\n", "~z"), [1, 3])

    def test_the_sets_of_a_chain(self):
        # With one of b, d, f besides the ground all behind it have to be in, for it strikes the next of the ground.
        names = "abcdefg"
        text = "".join(f"rule {name}: => h{name}\n" for name in names)
        text += "".join(f"law x{one}: {one} -> ~{two}\nweigh {one} > {two}\n" for one, two in zip(names, names[1:]))
        self.assertEqual(self.taken(text, "~a"), [0b1010101, 0b1110101, 0b1111101, 0b1111111])
        self.assertEqual(self.taken(text, "f"), [0b1010101])
        self.assertEqual(self.taken(text, "hd"), [0b1010101, 0b1110101])
        self.assertEqual(self.taken(text, "~c"), [0b1010101, 0b1110101, 0b1111101])
        self.assertEqual(self.taken(text, "~b"), [])


class NotTaken(DoubtedCase):
    def test_a_set_that_does_not_have_all_that_it_defends(self):
        # Nothing strikes c.
        self.assert_answer(NO, PAIR, "p", 0, 2)
        self.assert_answer(NO, PAIR, "~p", 0, 1)
        self.assert_answer(NO, PAIR, "~q", 0, 1, 2, 3)
        # a defends c.
        self.assert_answer(NO, SMALL, "q", 0, 1, 4)
        self.assert_answer(NO, SMALL, "~p", 0, 1, 2, 3, 4, 6)
        self.assert_answer(NO, WEIGHED_CHAIN, "hb", 0, 1, 0b1010101, 0b101010100, 0b100010101)

    def test_a_set_that_defends_more_than_it_has_by_a_strike_of_two(self):
        # {a, b} strikes x, x strikes c.
        text = "rule a: => p\nrule b: => q\nrule c: => z\nrule x: => ~z\nlaw u: a, b -> ~x\n"
        text += "weigh x > c\nweigh a > x\nweigh b > x\n"
        self.assertEqual(self.taken(text, "~p"), [0b0111, 0b1111])
        self.assert_answer(NO, text, "~z", 0b0011, 0b1111)
        self.assert_answer(YES, text, "~z", 0b0111)

    def test_a_set_from_which_the_literal_follows(self):
        self.assert_answer(NO, PAIR, "p", 5, 7)
        self.assert_answer(NO, PAIR, "~p", 6, 7)
        self.assert_answer(NO, PAIR, "a", 5, 7)
        self.assert_answer(NO, SMALL, "q", 7)
        self.assert_answer(NO, SMALL, "~c", 7)
        # By steps one behind another, and with a law.
        text = "rule a: => p\nrule b: => ~p\nrule c: p => q\nlaw x: q, c -> r\n"
        self.assertEqual(self.taken(text, "r"), [4, 6])
        self.assertEqual(self.taken(text, "~r"), [4, 5, 6, 7])

    def test_both(self):
        self.assert_answer(NO, PAIR, "p", 1, 3)
        self.assert_answer(NO, SMALL, "q", 2, 3, 6)

    def test_no_set_for_what_stands(self):
        for text, literals in [(PAIR, ("q", "c")), (SMALL, ("p", "r", "a", "c", "~b")), ("law x: -> p\n", ("p",)),
                               (PAIR + "law x: -> ~r\nlaw y: ~r -> s\n", ("~r", "s", "q"))]:
            for literal in literals:
                self.assertEqual(self.taken(text, literal), [], (text, literal))
                self.assertEqual(doubt(PlainCase(text).number(literal), bytes_of(text)), [-3])

    def test_a_bit_that_is_no_rules(self):
        # Without that bit they would be doubts.
        for rules in (4, 6):
            self.assert_answer(YES, PAIR, "p", rules)
            self.assert_answer(NO, PAIR, "p", *[rules | 1 << bit for bit in range(3, 32)])
        self.assert_answer(YES, PAIR, "~q", 7)
        self.assert_answer(NO, PAIR, "~q", 8, 12, 15, 1023, 1024, 2147483648, HIGHEST)
        # Nor for what follows, or with a set that doesn't have all that it defends.
        self.assert_answer(NO, PAIR, "q", 8, 12, HIGHEST)
        self.assert_answer(NO, PAIR, "p", 8, 9, 13)
        self.assert_answer(NO, "law x: -> p\n", "~p", 1, 2, HIGHEST)
        self.assert_answer(NO, CHAIN, "hb", 1024, 1025, 2048, HIGHEST)


class Weights(DoubtedCase):
    def test_they_turn_the_answer(self):
        text = "rule a: => p\nrule b: => ~p\n"
        self.assertEqual(self.taken(text, "p"), [0, 2])
        self.assertEqual(self.taken(text, "~p"), [0, 1])
        self.assertEqual(self.taken(text + "weigh a > b\n", "p"), [])
        self.assertEqual(self.taken(text + "weigh a > b\n", "~p"), [1])
        self.assertEqual(self.taken(text + "weigh b > a\n", "p"), [2])
        self.assertEqual(self.taken(text + "weigh b > a\n", "~p"), [])

    def test_by_going_on(self):
        text = "rule a: => p\nrule b: => q\nrule c: => ~p\n"
        self.assertEqual(self.taken(text, "~p"), [2, 3])
        self.assertEqual(self.taken(text + "weigh a > b\n", "~p"), [2, 3])
        for rows in ("weigh a > b\nweigh b > c\n", "weigh b > c\nweigh a > b\n", "weigh a > c\n"):
            self.assertEqual(self.taken(text + rows, "~p"), [3])
            self.assertEqual(self.taken(text + rows, "p"), [])


class AgainstTheSecondReading(DoubtedCase):
    def check(self, text):
        """All sets for all literals of the text: how many are doubts, and how many of these aren't the ground."""
        case, t = PlainCase(text), bytes_of(text)
        ground = case.ground()
        count = others = 0
        for literal in case.literals():
            for rules in list(case.sets()) + [1 << len(case.rules), HIGHEST]:
                expected = case.is_doubt(literal, rules)
                self.assertEqual(doubted(literal, rules, t), YES if expected else NO, (text, literal, rules))
                count += expected
                others += expected and rules != ground
        return count, others

    def summary(self, texts):
        checked = [self.check(text) for text in texts]
        return tuple(sum(column) for column in zip(*checked))

    def test_cases_of_few_rules(self):
        source = random.Random(42)
        texts = [with_weights(source, random_text(source, ["c", "e"], 3, 3, 2), 2) for _ in range(200)]
        count, others = self.summary(texts)
        self.assertGreater(count, 1500)
        self.assertGreater(others, 700)

    def test_cases_of_more_rules(self):
        source = random.Random(43)
        texts = [with_weights(source, random_text(source, ["c", "e", "p-p"], 4, 4, 2), 4) for _ in range(60)]
        count, others = self.summary(texts)
        self.assertGreater(count, 1000)
        self.assertGreater(others, 500)

    def test_rules_that_strike_by_their_names(self):
        source = random.Random(44)
        texts = []
        for _ in range(40):
            text = "".join(f"rule {name}: => h{name}\n" for name in "abcd")
            pairs = source.sample(list(itertools.permutations("abcd", 2)), source.randint(2, 5))
            text += "".join(f"law x{n}: {one} -> ~{two}\n" for n, (one, two) in enumerate(pairs))
            trios = source.sample(list(itertools.permutations("abcd", 3)), source.randint(0, 2))
            text += "".join(f"law y{n}: {one}, {two} -> ~{three}\n" for n, (one, two, three) in enumerate(trios))
            texts.append(with_weights(source, text, 4))
        count, others = self.summary(texts)
        self.assertGreater(count, 1000)
        self.assertGreater(others, 500)


class Size(DoubtedCase):
    def assert_quick(self, answer, text, literal, rules):
        start = time.perf_counter()
        self.assert_answer(answer, text, literal, rules)
        self.assertLess(time.perf_counter() - start, 4)

    def test_ten_rules_and_64_laws(self):
        text = long_chain()
        case = PlainCase(text)
        self.assertEqual((len(case.laws), len(case.rules), len(case.atoms)), (64, 10, 64))
        self.assert_quick(YES, text, "y53", 0)
        self.assert_quick(NO, text, "y53", 1)
        self.assert_quick(YES, text, "~y53", 1)
        self.assert_quick(YES, text, "y53", 1022)
        self.assert_quick(NO, text, "~y53", 1022)
        self.assert_quick(YES, text, "~a", 1023)
        self.assert_quick(NO, text, "~a", 2047)
        # b defends all but a, for a alone strikes them.
        self.assert_quick(NO, text, "~a", 2)

    def test_ten_rules_that_are_struck_by_many(self):
        text = "".join(f"rule {name}: => h{name}\n" for name in "abcdefghij")
        rows = [(six[:5], six[5]) for six in itertools.combinations("abcdefghij", 6)]
        for place, (body, head) in enumerate(rows[:64]):
            text += clause("law", f"l{place:02}", ", ".join("h" + name for name in body), f"~h{head}")
        for rules in (0, 1023):
            self.assert_quick(YES, text, "~a", rules)
        weights = "".join(f"weigh {one} > {two}\n" for one, two in zip("abcdefghi", "bcdefghij"))
        self.assert_quick(YES, text + weights, "hf", 31)
        self.assert_quick(NO, text + weights, "hf", 15)
        self.assert_quick(NO, text + weights, "ha", 31)


class Refused(DoubtedCase):
    def test_the_empty_case_has_no_literal(self):
        for literal, rules in itertools.product((0, 1, 2, HIGHEST), (0, 1, HIGHEST)):
            self.assertEqual(doubted(literal, rules, []), [-1])

    def test_a_case_without_rules(self):
        t = bytes_of("law a: -> p\n")
        self.assertEqual([doubted(literal, 0, t) for literal in range(3)], [NO, YES, [-1]])
        self.assertEqual([doubted(literal, 1, t) for literal in range(3)], [NO, NO, [-1]])

    def test_a_text_of_8192_bytes_and_of_more(self):
        self.assertEqual(doubted(1, 3, full_text(8192)), YES)
        self.assertEqual(doubted(1, 4, full_text(8192)), NO)
        self.assertEqual(doubted(8, 3, full_text(8192)), [-1])
        for length in (8193, 8194, 8300):
            for literal, rules in [(1, 3), (1, 0), (1, 4), (8, 3), (HIGHEST, HIGHEST)]:
                self.assertEqual(doubted(literal, rules, full_text(length)), [-1])

    def test_a_text_too_long_goes_before_no_case(self):
        for t in ([10] * 8193, [0] * 8300, full_text(8192) + [119]):
            for literal, rules in [(0, 0), (1, 3), (HIGHEST, HIGHEST)]:
                self.assertEqual(doubted(literal, rules, t), [-1])

    def test_no_case_goes_before_the_literal_and_the_set(self):
        for t in ([10], [255], bytes_of("rule a: => p"), bytes_of("law a: -> p\nlaw b: -> ~p\n"),
                  bytes_of("rule a: => p\nweigh a > a\n"), full_text(8191) + [119]):
            for literal, rules in [(0, 0), (1, 1), (0, HIGHEST), (9, 0), (HIGHEST, HIGHEST)]:
                self.assertEqual(doubted(literal, rules, t), [-6])

    def test_a_literal_that_there_is_not(self):
        t = bytes_of(PAIR)
        # Atoms a, b, c, p, q.
        self.assertEqual(doubted(9, 4, t), YES)
        for literal in (10, 11, 127, 128, HIGHEST):
            # Whatever the set is.
            for rules in (0, 4, 7, 8, 12, HIGHEST):
                self.assertEqual(doubted(literal, rules, t), [-1])
        t = bytes_of(long_chain())
        self.assertEqual([doubted(literal, 0, t) for literal in (127, 128, 129)], [YES, [-1], [-1]])

    def test_a_set_with_a_bit_that_is_no_rules_is_no_refusal(self):
        t = bytes_of(PAIR)
        self.assertEqual([doubted(9, rules, t) for rules in (8, 12, 1024, HIGHEST)], [NO] * 4)
        # derive refuses it.
        self.assertEqual(derive(8, 9, t), [-1])


class Kept(DoubtedCase):
    def test_what_is_handed_in_stays_and_a_second_call_answers_alike(self):
        texts = [bytes_of(PAIR), bytes_of(SMALL), [], bytes_of("law\n"), bytes_of("law x: -> p\n"), full_text(8193)]
        asked = list(itertools.product(range(11), range(9), texts))
        firsts = []
        for literal, rules, t in asked:
            before = list(t)
            firsts.append(doubted(literal, rules, t))
            self.assertEqual(t, before)
        self.assertEqual([doubted(*one) for one in asked], firsts)
        self.assertEqual(sorted({tuple(answer) for answer in firsts}), [(-6,), (-1,), (0, 0), (0, 1)])
        for answer in firsts:
            self.assertIs(type(answer), list)
            self.assertTrue(all(type(number) is int for number in answer), answer)

    def test_what_is_given_back_is_the_callers_own(self):
        for literal, rules in [(1, 1), (1, 0), (1, 2), (8, 1)]:
            first = doubted(literal, rules, bytes_of("rule a: => p\n"))
            again = list(first)
            first.append(9)
            first[0] = 9
            self.assertEqual(doubted(literal, rules, bytes_of("rule a: => p\n")), again)


if __name__ == "__main__":
    unittest.main()

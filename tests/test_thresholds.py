"""Points 61 to 63: rules of one number, their tolls and lies."""

import copy
import unittest
from fractions import Fraction

from tests.kit import ONE, ZERO, plain, plains, r, rs, seeded, some_ratio, state
from unbent.errors import InvalidThresholds
from unbent.thresholds import Thresholds


def rule_of(low, high, cuts, shares):
    return Thresholds(r(low), r(high), cuts=rs(*cuts), shares=rs(*shares))


class Examples(unittest.TestCase):
    def test_of_the_interface(self):
        rule = Thresholds((0, 1), (10, 1), cuts=[(4, 1)], shares=[(0, 1), (1, 1)])
        self.assertEqual((rule.tolls(), rule.lie([(0, 1), (4, 1)])), ([(0, 1), (4, 1)], None))
        self.assertEqual(rule.lie([(0, 1), (5, 1)]), ((4, 1), (0, 1), (1, 1)))


class Construction(unittest.TestCase):
    def test_attributes(self):
        cuts, shares = rs(1, "3/2"), rs(5, -1, 2)
        rule = Thresholds(r(-1), r(2), cuts=cuts, shares=shares)
        self.assertEqual((rule.low, rule.high, rule.cuts, rule.shares), (r(-1), r(2), cuts, shares))
        cuts.append(None)
        shares.clear()
        self.assertEqual((rule.cuts, rule.shares), (rs(1, "3/2"), rs(5, -1, 2)))

    def refuse(self, *parts):
        with self.assertRaises(InvalidThresholds) as caught:
            rule_of(*parts)
        self.assertIsInstance(caught.exception.reason, str)

    def test_faults(self):
        self.refuse(1, 1, [], [0])
        self.refuse(2, 1, [], [0])
        self.refuse(0, 9, [0], [0, 1])
        self.refuse(0, 9, [9], [0, 1])
        self.refuse(0, 9, [-1], [0, 1])
        self.refuse(0, 9, [10], [0, 1])
        self.refuse(0, 9, [5, 4], [0, 1, 2])
        self.refuse(0, 9, [4, 4], [0, 1, 2])
        self.refuse(0, 9, [4], [0])
        self.refuse(0, 9, [4], [0, 1, 2])
        self.refuse(0, 9, [], [])
        self.refuse(0, 9, [1, 2, 3, 4, 5, 6, 7, 8], range(9))

    def test_most_cuts(self):
        rule = rule_of(0, 9, range(1, 8), range(8))
        self.assertEqual(len(rule.tolls()), 8)
        self.assertEqual(rule_of(0, 9, [], [3]).tolls(), [ZERO])


class Pieces(unittest.TestCase):
    rule = rule_of(0, 10, [2, "9/2"], [0, 1, 2])

    def test_pieces(self):
        for number, piece in ((0, 0), ("1999/1000", 0), (2, 1), ("2001/1000", 1), ("449/100", 1), ("9/2", 2), (10, 2)):
            self.assertEqual(self.rule.piece(r(number)), piece, number)
        self.assertEqual(rule_of(0, 1, [], [5]).piece(ONE), 0)

    def test_numbers_outside(self):
        for number in (-1, "-1/1000", "10001/1000", 11):
            with self.assertRaises(InvalidThresholds):
                self.rule.piece(r(number))


class Tolls(unittest.TestCase):
    def test_written_out(self):
        self.assertEqual(rule_of(0, 10, [2, "9/2"], [0, 1, "3/2"]).tolls(), rs(0, 2, "17/4"))
        self.assertEqual(rule_of(-5, 5, [-2, 0, 1], [1, 3, 3, 0]).tolls(), rs(0, -4, -4, -7))

    def test_ascending(self):
        self.assertTrue(rule_of(0, 9, [1, 2], [0, 0, 1]).is_ascending())
        self.assertTrue(rule_of(0, 9, [], [-4]).is_ascending())
        self.assertFalse(rule_of(0, 9, [1, 2], [0, 1, "99/100"]).is_ascending())
        self.assertFalse(rule_of(0, 9, [1, 2], [1, 0, 1]).is_ascending())


class Lies(unittest.TestCase):
    def test_start_of_the_piece_gains(self):
        rule = rule_of(1, 10, [4, 6], [0, 1, 2])
        # The tolls are 0, 4, 10; piece 1 is a bargain for the low number, and more so for others.
        self.assertEqual(rule.lie(rs(0, "1/2", 10)), (r(1), r(4), r("1/2")))
        # Piece 2 is too dear, so those in it tell piece 0 or 1: the first one counts.
        self.assertEqual(rule.lie(rs(0, 4, 13)), (r(6), r(1), r(-6 * 2 + 13)))

    def test_halfway(self):
        # The gain of v is v - 3: it is 0 at 3, and 7/2 is halfway between 3 and the cut.
        self.assertEqual(rule_of(0, 10, [4], [0, 1]).lie(rs(0, 3)), (r("7/2"), r(4), r("1/2")))
        self.assertEqual(rule_of(0, 10, [6], [1, 2]).lie(rs(0, "11/2")), (r("23/4"), r(6), r("1/4")))
        # Piece 0 gains nothing by piece 1, but by piece 2.
        self.assertEqual(rule_of(0, 10, [4, 6], [0, 3, 1]).lie(rs(0, 12, 3)), (r("7/2"), r(6), r("1/2")))

    def test_the_first_piece_that_lies(self):
        # Numbers above 8 of piece 1 would rather have piece 0, but piece 0 comes first.
        self.assertEqual(rule_of(0, 10, [6], [3, 1]).lie(rs(16, 0)), (ZERO, r(6), r(16)))
        # With 10 less to pay the low number is content with piece 0: so piece 1 is the first that lies.
        self.assertEqual(rule_of(5, 10, [6], [3, 1]).lie(rs(16, 6)), (r(6), r(5), r(2)))

    def test_the_start_may_be_indifferent(self):
        # At the start the gain is 0, so the number halfway to the end is returned.
        self.assertEqual(rule_of(0, 10, [4], [0, 1]).lie(rs(0, 0)), (r(2), r(4), r(2)))

    def test_the_end_of_a_piece_does_not_gain_alone(self):
        # At the cut itself the gain would be 0, and below it is less.
        self.assertIsNone(rule_of(0, 10, [4], [0, 1]).lie(rs(0, 4)))
        # The high number belongs to the last piece, but where it gains others do, too.
        self.assertIsNone(rule_of(0, 10, [4], [1, 1]).lie(rs(0, 0)))

    def test_no_lie(self):
        self.assertIsNone(rule_of(0, 10, [], [7]).lie(rs(3)))
        self.assertIsNone(rule_of(0, 10, [4], [0, 1]).lie(rs(7, 11)))

    def test_other_numbers_of_payments(self):
        rule = rule_of(0, 10, [4], [0, 1])
        for payments in ([], rs(0), rs(0, 4, 4)):
            with self.assertRaises(InvalidThresholds):
                rule.lie(payments)


def judged_lie(rule, payments):
    """The lie of point 63, found by looking at the start of a piece and just before its end."""
    ends = [plain(rule.low), *plains(rule.cuts), plain(rule.high)]
    shares, payments = plains(rule.shares), plains(payments)
    for i in range(len(shares)):
        for j in range(len(shares)):
            def gain(v):
                return (v * shares[j] - payments[j]) - (v * shares[i] - payments[i])

            start, end = ends[i], ends[i + 1]
            if gain(start) > 0:
                return start, ends[j], gain(start)
            if gain(end - (end - start) / 10 ** 12) > 0:
                # The gain grows evenly from the start to the end.
                nothing = start + (end - start) * -gain(start) / (gain(end) - gain(start))
                true = (nothing + end) / 2
                return true, ends[j], gain(true)
    return None


def some_rule(source, ascending):
    count = source.randint(0, 4)
    marks = sorted(source.sample(range(-6, 12), count + 2))
    shares = [some_ratio(source, 5) for _ in range(count + 1)]
    if ascending:
        shares = [r(share) for share in sorted(plains(shares))]
    return Thresholds(r(marks[0]), r(marks[-1]), cuts=rs(*marks[1:-1]), shares=shares)


class Against(unittest.TestCase):
    def test_lies(self):
        source = seeded(1101)
        found = []
        for at in range(600):
            rule = some_rule(source, at % 2 == 0)
            payments = [r(plain(toll) + source.choice((0, 0, 0, 1, -1, Fraction(1, 3)))) for toll in rule.tolls()]
            before = state(rule), copy.deepcopy(payments)
            judged = judged_lie(rule, payments)
            lie = rule.lie(payments)
            self.assertEqual(lie, judged and tuple(map(r, judged)))
            self.assertEqual((state(rule), payments), before)
            if lie is not None:
                true, told, gain = plains(lie)
                mine, other = rule.piece(lie[0]), rule.piece(lie[1])
                has = [true * plain(share) - plain(paid) for share, paid in zip(rule.shares, payments)]
                self.assertEqual(has[other] - has[mine], gain)
                self.assertGreater(gain, 0)
                self.assertTrue(plain(rule.low) <= true <= plain(rule.high))
                found.append("start" if true in [plain(rule.low), *plains(rule.cuts)] else "halfway")
            else:
                found.append("none")
        for kind in ("start", "halfway", "none"):
            self.assertGreater(found.count(kind), 60, kind)

    def test_tolls_are_honest_exactly_if_the_shares_ascend(self):
        source = seeded(1102)
        found = []
        for at in range(300):
            rule = some_rule(source, at % 2 == 0)
            more = some_ratio(source)
            before = state(rule)
            tolls = rule.tolls()
            shares = plains(rule.shares)
            ascends = shares == sorted(shares)
            self.assertIs(rule.is_ascending(), ascends)
            self.assertIs(rule.lie(tolls) is None, ascends)
            self.assertIs(rule.lie([r(plain(toll) + plain(more)) for toll in tolls]) is None, ascends)
            self.assertEqual(state(rule), before)
            found.append(ascends)
            # With equal shares before and behind a cut only equal payments are honest; so nothing else is.
            if ascends and len(tolls) > 1:
                for piece in range(1, len(tolls)):
                    other = list(tolls)
                    other[piece] = r(plain(tolls[piece]) + source.choice((-1, 1)) * Fraction(1, 1000))
                    self.assertIsNotNone(rule.lie(other))
            if not ascends:
                self.assertIsNotNone(rule.lie([some_ratio(source) for _ in tolls]))
        self.assertGreater(found.count(True), 100)
        self.assertGreater(found.count(False), 60)


if __name__ == "__main__":
    unittest.main()

"""Points 102 and 103: a net carries the letters of one round."""

import copy
import unittest

from tests.kit import (
    ONE, ZERO, game_of, letter_of, nested, plain, r, round_game, round_rule, run_net, seeded, some_game_and_rule,
    some_net, state,
)
from unbent.desk import terms
from unbent.errors import InvalidContent, InvalidKeys, InvalidPlay, InvalidReport, InvalidRound, UnknownLetter
from unbent.games import Game, profile_number
from unbent.net import Net
from unbent.notary import Notary, is_signed

KEYS = ["desk", "one", "two"]
REPORTS = [(1, "salt", (1, 2)), (0, "sand", (2, 3))]


def net_of(honest=(True, True, True), reports=None, keys=None, **more):
    return Net(round_game(), round_rule(), KEYS if keys is None else keys, honest=list(honest),
               reports=REPORTS if reports is None else reports, **more)


def sent(net, numbers):
    """The letter of the number that was just added."""
    return net.letters()[numbers[0]]


class Examples(unittest.TestCase):
    def test_of_the_interface(self):
        game = Game([("ann", [("low", (1, 1), (0, 1), [(0, 1), (1, 1)])])], ["none", "all"])
        rule = [([(0, 1), (1, 1)], [(0, 1)])]
        net = Net(game, rule, ["d", "a"], honest=[True, True], reports=[(0, "s", (1, 2))])
        self.assertEqual((net.begin(), net.deliver(0, 1), net.deliver(1, 0), net.deliver(2, 1)), ([0], [1], [2], [3]))
        self.assertEqual((net.deliver(3, 0), net.deliver(4, 1), net.result_of(1)), ([4], [], ((0,), 1)))
        with self.assertRaises(InvalidPlay):
            net.forge(1, "commit", 7)


class Making(unittest.TestCase):
    def test_lengths(self):
        for honest in ((), (True,), (True, True), (True,) * 4):
            with self.assertRaises(InvalidPlay):
                net_of(honest)
        for reports in ([], REPORTS[:1], REPORTS * 2):
            with self.assertRaises(InvalidPlay):
                net_of(reports=reports)
        # Ahead of all other errors.
        with self.assertRaises(InvalidPlay):
            net_of((True,) * 4, reports=[(9, "s", ONE)] * 2, keys=["a"], round_number=0)
        with self.assertRaises(InvalidPlay):
            net_of(reports=[(9, "s", ONE)], keys=["", ""], round_number=0)

    def test_keys(self):
        for keys in ([], ["a"], ["a", "a", "b"], ["a", "", "b"], ["", "b", "c"]):
            for honest in ((True, True, True), (False, False, False)):
                with self.assertRaises(InvalidKeys):
                    net_of(honest, keys=keys, round_number=0)
        for keys in (["a", "b"], ["a", "b", "c", "d"]):
            for honest in ((True, False, False), (False, True, False), (False, False, True), (True, True, True)):
                with self.assertRaises(InvalidKeys):
                    net_of(honest, keys=keys, reports=[(9, "s", ONE)] * 2)

    def test_rounds(self):
        for round_number in (0, -1, True, None, "1"):
            for honest in ((True, False, False), (False, True, False), (False, False, True), (True, True, True)):
                with self.assertRaises(InvalidRound):
                    net_of(honest, round_number=round_number, reports=[(9, "s", ONE)] * 2)
                with self.assertRaises(InvalidRound):
                    net_of(honest, round_number=round_number, keys=["a", "b"])

    def test_reports(self):
        wrong = [(2, "s", ZERO), (-1, "s", ZERO), (0, "s", ONE), (0, "s", (2, 4)), (True, "s", ZERO)]
        for report in wrong:
            for honest in ((True, True, True), (False, True, False)):
                with self.assertRaises(InvalidReport):
                    net_of(honest, reports=[report, REPORTS[1]])
            with self.assertRaises(InvalidReport):
                net_of(reports=[REPORTS[0], report])
            # The report of a party that is not honest does not matter.
            net_of((True, False, True), reports=[report, REPORTS[1]])
            net_of((True, False, False), reports=[report, report])

    def test_the_notary(self):
        net = net_of()
        self.assertIsInstance(net.notary, Notary)
        self.assertEqual(net.notary.members, 3)
        self.assertTrue(all(net.notary.is_key(member, key) for member, key in enumerate(KEYS)))
        self.assertEqual(state(net.notary), state(Notary(KEYS)))
        self.assertEqual(net.letters(), [])


class Course(unittest.TestCase):
    def test_an_ordinary_round(self):
        net = net_of()
        notary = Notary(KEYS)
        due = notary.number(terms(round_game(), round_rule()))
        expected = [letter_of(notary, KEYS, 0, "call", due)]
        self.assertEqual(net.begin(), [0])
        self.assertEqual((net.deliver(0, 1), net.deliver(0, 2)), ([1], [2]))
        for member, (kind, salt, ticket) in enumerate(REPORTS):
            number = notary.number(("report", salt, kind, ticket))
            expected.append(letter_of(notary, KEYS, member + 1, "commit", number))
        self.assertEqual((net.deliver(1, 0), net.deliver(2, 0)), ([], [3]))
        body = tuple((letter[3], letter[4]) for letter in expected[1:])
        expected.append(letter_of(notary, KEYS, 0, "list", body))
        self.assertEqual((net.deliver(3, 2), net.deliver(3, 1)), ([4], [5]))
        number = notary.number(("list", body))
        for member in (2, 1):
            kind, salt, ticket = REPORTS[member - 1]
            expected.append(letter_of(notary, KEYS, member, "open", (number, salt, kind, ticket)))
        self.assertEqual((net.deliver(4, 0), net.deliver(5, 0)), ([], [6]))
        book = tuple((letter[3], letter[4]) for letter in (expected[5], expected[4]))
        expected.append(letter_of(notary, KEYS, 0, "book", book))
        self.assertEqual(net.letters(), expected)
        self.assertEqual((net.result_of(1), net.result_of(2)), (None, None))
        self.assertEqual((net.deliver(6, 2), net.result_of(1), net.result_of(2)), ([], None, ((1, 0), 0)))
        self.assertEqual((net.deliver(6, 1), net.result_of(1)), ([], ((1, 0), 0)))
        self.assertEqual(net.letters(), expected)
        # The letters that each party took and sent.
        self.assertEqual(net.receipts_of(1), [expected[at] for at in (0, 1, 3, 5, 6)])
        self.assertEqual(net.receipts_of(2), [expected[at] for at in (0, 2, 3, 4, 6)])

    def test_letters_are_added_again(self):
        net = net_of()
        self.assertEqual((net.begin(), net.begin()), ([0], [1]))
        self.assertEqual((net.deliver(0, 1), net.deliver(1, 1), net.deliver(0, 1)), ([2], [3], [4]))
        letters = net.letters()
        self.assertEqual(letters[0], letters[1])
        self.assertEqual(letters[2:], [letters[2]] * 3)
        self.assertTrue(all(is_signed(net.notary, letter) for letter in letters))

    def test_delivering_to_others(self):
        net = net_of()
        net.begin()
        self.assertEqual(net.deliver(0, 0), [])
        net.deliver(0, 1)
        self.assertEqual((net.deliver(1, 1), net.deliver(1, 2)), ([], []))
        self.assertEqual(net.receipts_of(2), [])

    def test_members_that_are_not_honest(self):
        net = net_of((False, True, False))
        self.assertEqual((net.begin(), net.letters()), ([], []))
        due = net.notary.number(terms(round_game(), round_rule()))
        self.assertEqual(net.forge(0, "call", due), [0])
        self.assertEqual((net.deliver(0, 0), net.deliver(0, 2), net.deliver(0, 1)), ([], [], [1]))
        self.assertEqual((net.deliver(1, 0), net.deliver(1, 2)), ([], []))
        for member in (0, 2):
            self.assertEqual((net.result_of(member), net.receipts_of(member)), (None, []))
        self.assertEqual((net.result_of(1), net.receipts_of(1)), (None, net.letters()))

    def test_results_and_receipts_of_no_parties(self):
        net = net_of()
        net.begin()
        net.deliver(0, 0)
        for member in (0, -1, 3, 99, -2):
            self.assertIsNone(net.result_of(member))
            self.assertEqual(net.receipts_of(member), [])

    def test_unknown_letters_and_members(self):
        net = net_of()
        for number in (0, -1, 5):
            for member in (1, 9, -1):
                with self.assertRaises(UnknownLetter) as caught:
                    net.deliver(number, member)
                self.assertEqual(caught.exception.number, number)
        net.begin()
        for number in (1, -1, -2, 10 ** 20):
            for member in (1, 3):
                with self.assertRaises(UnknownLetter):
                    net.deliver(number, member)
        for member in (-1, 3, -3, 10 ** 20):
            with self.assertRaises(InvalidPlay):
                net.deliver(0, member)
        self.assertEqual(len(net.letters()), 1)

    def test_other_rounds(self):
        net = net_of(round_number=7)
        net.begin()
        net.deliver(0, 1)
        self.assertEqual([letter[1] for letter in net.letters()], [7, 7])
        net = net_of((False, True, True), round_number=8)
        net.forge(0, "book", 1)
        self.assertEqual(net.letters(), [("book", 8, 0, 1, 0)])
        self.assertEqual(net_of((False,) * 3).forge(0, "call", 1), [0])
        # Without a number it is round 1.
        net = net_of()
        net.begin()
        self.assertEqual(net.letters()[0][1], 1)

    def test_lists_may_change_afterwards(self):
        keys, honest, reports, rule = list(KEYS), [False, True, True], list(REPORTS), round_rule()
        net = Net(round_game(), rule, keys, honest=honest, reports=reports)
        keys[0], keys[1] = "new", "newer"
        honest[0], honest[1] = True, False
        reports.clear()
        rule[2][0][0], rule[2][0][1] = ZERO, ONE
        rule.pop()
        due = net.notary.number(terms(round_game(), round_rule()))
        self.assertEqual(net.forge(0, "call", due), [0])
        with self.assertRaises(InvalidPlay):
            net.forge(1, "commit", 1)
        commits = net.deliver(0, 1) + net.deliver(0, 2)
        body = tuple(net.letters()[at][3:] for at in commits)
        opens = [net.deliver(net.forge(0, "list", body)[0], member)[0] for member in (1, 2)]
        net.deliver(net.forge(0, "book", tuple(net.letters()[at][3:] for at in opens))[0], 1)
        self.assertEqual(net.result_of(1), ((1, 0), 0))
        net.letters().clear()
        net.receipts_of(1).clear()
        self.assertEqual((len(net.letters()), len(net.receipts_of(1))), (8, 5))


class Forging(unittest.TestCase):
    def test_each_kind(self):
        net = net_of((False, True, False))
        notary = Notary(KEYS)
        for member in (0, 2):
            for kind in ("call", "commit", "list", "open", "book"):
                for body in (0, -1, "x", (), ((1, 2), (3, 4)), nested(5)):
                    count = len(net.letters())
                    self.assertEqual(net.forge(member, kind, body), [count])
                    self.assertEqual(net.letters()[-1], letter_of(notary, KEYS, member, kind, body))
                    self.assertTrue(is_signed(net.notary, net.letters()[-1]))
        # The same letter again is one more letter.
        count = len(net.letters())
        self.assertEqual(net.forge(2, "open", 5) + net.forge(2, "open", 5), [count, count + 1])
        self.assertEqual(net.letters()[-1], net.letters()[-2])

    def test_wrong_members_and_bodies(self):
        net = net_of((False, True, True))
        for member in (1, 2, 3, -1, -3, 99):
            for body in (0, True, None, [1], nested(7)):
                with self.assertRaises(InvalidPlay):
                    net.forge(member, "call", body)
        for body in (True, False, None, [], [1], (1, None), (True,), 1.5, nested(7)):
            with self.assertRaises(InvalidContent):
                net.forge(0, "call", body)
        # A body that is a content, but too deep for a letter that can be signed.
        with self.assertRaises(InvalidContent):
            net.forge(0, "call", nested(6))
        self.assertEqual(net.letters(), [])
        self.assertEqual(state(net.notary), state(Notary(KEYS)))

    def test_more_or_fewer_keys_where_nobody_is_honest(self):
        for keys in (["a", "b"], ["a", "b", "c", "d"]):
            net = net_of((False, False, False), keys=keys)
            self.assertEqual((net.begin(), net.forge(1, "commit", 7)), ([], [0]))
            for member in (-1, 3 if len(keys) > 3 else 2, 4):
                with self.assertRaises(InvalidPlay):
                    net.forge(member, "commit", 7)
                with self.assertRaises(InvalidPlay):
                    net.deliver(0, member)

    def test_forging_numbers_nothing(self):
        net = net_of((False, True, True))
        net.forge(0, "call", ("a", "b"))
        self.assertIsNone(net.notary.known(("a", "b")))
        self.assertEqual(net.notary.number("first"), 0)


class Limits(unittest.TestCase):
    def test_400_letters(self):
        net = net_of((False, True, True))
        due = net.notary.number(terms(round_game(), round_rule()))
        net.forge(0, "call", due)
        for at in range(1, 399):
            self.assertEqual(net.forge(0, "book", at), [at])
        self.assertEqual(net.deliver(0, 1), [399])
        letters = net.letters()
        self.assertEqual(len(letters), 400)
        self.assertEqual((net.deliver(0, 2), net.deliver(0, 1), net.forge(0, "call", 3)), ([], [], []))
        self.assertEqual(net.letters(), letters)
        self.assertEqual(net.deliver(399, 1), [])
        with self.assertRaises(UnknownLetter):
            net.deliver(400, 1)
        # The errors stay the same.
        with self.assertRaises(InvalidPlay):
            net.forge(1, "call", 3)
        with self.assertRaises(InvalidContent):
            net.forge(0, "call", None)
        # The party has sent its commit all the same.
        self.assertEqual([letter[0] for letter in net.receipts_of(2)], ["call", "commit"])

    def test_beginning_again_and_again(self):
        net = net_of()
        for at in range(400):
            self.assertEqual(net.begin(), [at])
        self.assertEqual(net.begin(), [])
        self.assertEqual(len(net.letters()), 400)


class Promises(unittest.TestCase):
    def test_courses_with_members_that_are_not_honest(self):
        source = seeded(251)
        ended, twice = 0, 0
        for _ in range(300):
            net, game, rule, honest, reports = some_net(source)
            before = state(game), copy.deepcopy(rule)
            run_net(source, net, game, net.notary.number(terms(game, rule)), honest, source.randint(10, 100 * len(honest)))
            results = {}
            for party in range(1, len(honest)):
                if net.result_of(party) is not None:
                    self.assertTrue(honest[party])
                    results[party] = net.result_of(party)
            for profile, outcome in results.values():
                for party in range(1, len(honest)):
                    if honest[party]:
                        self.assertEqual(profile[party - 1], reports[party - 1][0])
                self.assertGreater(plain(rule[profile_number(game, profile)][0][outcome]), 0)
            self.assertLessEqual(len(set(results.values())), 1)
            self.assertTrue(all(is_signed(net.notary, letter) for letter in net.letters()))
            self.assertEqual((state(game), rule), before)
            ended += bool(results) and not all(honest)
            twice += len(results) > 1 and not all(honest)
        self.assertGreater(ended, 30)
        self.assertGreater(twice, 4)

    def test_two_lists_by_the_help_of_a_party(self):
        game = game_of([[[0, 1], [0, 2]]] * 3)
        rule = [([ZERO, ONE], [ZERO] * 3)] * 8
        reports = [(at % 2, f"s{at}", r(at, 7)) for at in range(3)]
        net = Net(game, rule, ["d", "a", "b", "c"], honest=[False, True, True, False], reports=reports)
        net.forge(0, "call", net.notary.number(terms(game, rule)))
        pairs = [sent(net, net.deliver(0, member))[3:] for member in (1, 2)]
        lists, opens = [], []
        for kind in (0, 1):
            number = net.notary.number(("report", "x", kind, ZERO))
            pair = sent(net, net.forge(3, "commit", number))[3:]
            lists.append(sent(net, net.forge(0, "list", (pairs[0], pairs[1], pair))))
            own = net.notary.number(("list", lists[-1][3]))
            opens.append(sent(net, net.forge(3, "open", (own, "x", kind, ZERO))))
        number = [net.letters().index(letter) for letter in lists]
        first = sent(net, net.deliver(number[0], 1))
        second = sent(net, net.deliver(number[1], 2))
        for opened in opens:
            book = tuple(letter[3:] for letter in (first, second, opened))
            at = net.forge(0, "book", book)[0]
            for member in (1, 2):
                self.assertEqual(net.deliver(at, member), [])
                self.assertIsNone(net.result_of(member))
        # Each keeps to its first list.
        self.assertEqual((net.deliver(number[1], 1), net.deliver(number[0], 2)), ([], []))

    def test_five_passes(self):
        source = seeded(252)
        for turn in range(40):
            game, rule = some_game_and_rule(source)
            if turn < 8:
                # As many agents as there may be.
                game = game_of([[[0, 1], [0, 2]]] * 4)
                rule = [([ONE, ZERO], [ZERO] * 4)] * 16
            many = len(game.agents) + 1
            reports = [(source.randrange(len(kinds)), "s", (1, 2)) for _, kinds in game.agents]
            net = Net(game, rule, [f"key {at}" for at in range(many)], honest=[True] * many, reports=reports)
            net.begin()
            for _ in range(5):
                course = [(number, member) for number in range(len(net.letters())) for member in range(many)]
                if turn % 4 == 1:
                    course.reverse()
                elif turn % 4 > 1:
                    source.shuffle(course)
                for number, member in course:
                    net.deliver(number, member)
            results = {net.result_of(party) for party in range(1, many)}
            self.assertEqual(len(results), 1)
            self.assertEqual(results.pop()[0], tuple(report[0] for report in reports))

    def test_equal_courses(self):
        for seed in range(5):
            found = []
            for _ in range(2):
                source = seeded(260 + seed)
                net, game, rule, honest, _ = some_net(source)
                run_net(source, net, game, net.notary.number(terms(game, rule)), honest, 150)
                parties = range(1, len(honest))
                found.append((net.letters(), [net.result_of(party) for party in parties],
                              [net.receipts_of(party) for party in parties], state(net.notary)))
            self.assertEqual(found[0], found[1])


if __name__ == "__main__":
    unittest.main()

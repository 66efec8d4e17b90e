"""Points 104 and 105: letters that convict a member."""

import copy
import itertools
import unittest

from tests.kit import (
    ODD_VALUES, ZERO, game_of, letter_of, nested, r, round_game, round_rule, run_net, seeded, some_net, state,
    state_of_notary,
)
from unbent.desk import book_fits, open_fits, stands, terms
from unbent.games import Game
from unbent.net import Net
from unbent.notary import Notary, is_signed
from unbent.verdicts import convicted


class Examples(unittest.TestCase):
    def test_of_the_interface(self):
        game = Game([("ann", [("low", (1, 1), (0, 1), [(0, 1), (1, 1)])])], ["none", "all"])
        rule = [([(0, 1), (1, 1)], [(0, 1)])]
        net = Net(game, rule, ["d", "a"], honest=[False, True], reports=[(0, "s", (1, 2))])
        self.assertEqual(net.forge(0, "call", 99), [0])
        self.assertTrue(convicted(game, rule, net.notary, net.letters()) == [(0, "call", (net.letters()[0],))])


def proves(game, rule, notary, member, reason, letters):
    """Whether one or two letters, in the order of the list, are what the reason asks for."""
    kinds = [letter[0] for letter in letters]
    rounds = {letter[1] for letter in letters}
    bodies = [letter[3] for letter in letters]
    senders = [letter[2] for letter in letters]
    if len(rounds) != 1:
        return False
    if len(letters) == 1:
        if senders != [0] or kinds != [reason]:
            return False
        if reason == "call":
            return bodies[0] != notary.known(terms(game, rule))
        return reason == "list" and not stands(notary, game, letters[0][1], bodies[0])
    if reason == "lists":
        return senders == [0, 0] and kinds == ["list", "list"] and bodies[0] != bodies[1]
    if reason == "commits":
        return senders == [member] * 2 and kinds == ["commit", "commit"] and bodies[0] != bodies[1]
    if reason == "opens":
        tuples = all(isinstance(body, tuple) and len(body) == 4 for body in bodies)
        return (senders == [member] * 2 and kinds == ["open", "open"] and tuples and bodies[0] != bodies[1]
                and bodies[0][0] == bodies[1][0])
    if sorted(kinds) != (["book", "list"] if reason == "book" else ["list", "open"]):
        return False
    listed = letters[kinds.index("list")]
    other = letters[1 - kinds.index("list")]
    if listed[2] != 0 or other[2] != member or not stands(notary, game, listed[1], listed[3]):
        return False
    if reason == "book":
        return not book_fits(notary, game, listed[1], listed[3], other[3])
    body = other[3]
    return (isinstance(body, tuple) and len(body) == 4 and body[0] == notary.known(("list", listed[3]))
            and not open_fits(notary, game, listed[1], member, listed[3], body))


def judged(game, rule, notary, values):
    """The verdicts, by trying all letters and all pairs for each reason in order."""
    letters = [value for value in values if is_signed(notary, value)]
    verdicts = []
    for member in range(len(game.agents) + 1):
        reasons = (("call", 1), ("list", 1), ("lists", 2), ("book", 2))
        if member:
            reasons = (("commits", 2), ("open", 2), ("opens", 2))
        for reason, size in reasons:
            chosen = next((found for found in itertools.combinations(letters, size)
                           if proves(game, rule, notary, member, reason, found)), None)
            if chosen is not None:
                verdicts.append((member, reason, chosen))
                break
    return verdicts


KEYS = ["desk", "one", "two"]
REPORTS = [("salt", 1, (1, 2)), ("sand", 0, (2, 3))]


class Scene:
    """A round of two parties and all its letters."""

    def __init__(self, round_number=1, notary=None):
        self.round = round_number
        self.notary = Notary(KEYS) if notary is None else notary
        self.game = round_game()
        self.rule = round_rule()
        self.due = self.notary.number(terms(self.game, self.rule))
        self.numbers = [self.notary.number(("report",) + report) for report in REPORTS]
        self.call = self.letter(0, "call", self.due)
        self.commits = [self.letter(at + 1, "commit", number) for at, number in enumerate(self.numbers)]
        self.list = self.letter(0, "list", self.pairs(self.commits))
        self.number = self.notary.number(("list", self.list[3]))
        self.opens = [self.letter(at + 1, "open", (self.number,) + report) for at, report in enumerate(REPORTS)]
        self.book = self.letter(0, "book", self.pairs(self.opens))
        self.letters = [self.call] + self.commits + [self.list] + self.opens + [self.book]

    def letter(self, member, kind, body, round_number=None):
        return letter_of(self.notary, KEYS, member, kind, body, self.round if round_number is None else round_number)

    def pairs(self, letters):
        return tuple(letter[3:] for letter in letters)

    def verdicts(self, values):
        before = copy.deepcopy(values), state_of_notary(self.notary), state(self.game)
        found = convicted(self.game, self.rule, self.notary, values)
        assert (values, state_of_notary(self.notary), state(self.game)) == before
        assert found == judged(self.game, self.rule, self.notary, values)
        return found


class Reasons(unittest.TestCase):
    def setUp(self):
        self.scene = Scene()
        self.letter = self.scene.letter
        # Another commit of the second party, and a second list that stands.
        self.other = self.letter(2, "commit", self.scene.notary.number(("report", "new", 1, ZERO)))
        self.rival = self.letter(0, "list", self.scene.pairs([self.scene.commits[0], self.other]))

    def check(self, values, *verdicts):
        self.assertEqual(self.scene.verdicts(list(values)), list(verdicts))

    def test_an_honest_round(self):
        self.check([])
        self.check(self.scene.letters)
        self.check(self.scene.letters[::-1] + self.scene.letters)

    def test_calls(self):
        for body in (self.scene.due + 1, -1, 10 ** 9, str(self.scene.due), (self.scene.due,), "", ()):
            call = self.letter(0, "call", body)
            self.check([call], (0, "call", (call,)))
            self.check(self.scene.letters + [call], (0, "call", (call,)))
        # Without a number of the terms every call is wrong.
        scene = self.scene
        scene.notary = Notary(KEYS)
        calls = [self.letter(0, "call", body) for body in (0, 1)]
        self.check(calls, (0, "call", (calls[0],)))
        self.assertIsNone(scene.notary.known(terms(scene.game, scene.rule)))

    def test_lists_that_do_not_stand(self):
        first, second = self.scene.list[3]
        for body in ((second, first), (first,), (), 7, "x", (first, first), (first, (second[0], second[1] + 1)),
                     (first, (second[0] + 1, second[1]))):
            wrong = self.letter(0, "list", body)
            self.check([wrong], (0, "list", (wrong,)))
            self.check([self.scene.list, wrong, self.scene.book], (0, "list", (wrong,)))
        # A list that stands in another round.
        wrong = self.letter(0, "list", self.scene.list[3], 2)
        self.check([self.scene.list, wrong], (0, "list", (wrong,)))

    def test_two_lists(self):
        self.check([self.scene.list, self.scene.list])
        self.check([self.scene.list, self.rival], (0, "lists", (self.scene.list, self.rival)))
        self.check([self.rival, self.scene.list], (0, "lists", (self.rival, self.scene.list)))

    def test_books(self):
        first, second = self.scene.book[3]
        for body in ((second, first), (first,), (), 7, (first, first), (first, (second[0], second[1] + 1))):
            wrong = self.letter(0, "book", body)
            self.check([wrong])
            self.check([self.scene.list, wrong], (0, "book", (self.scene.list, wrong)))
            self.check([wrong, self.scene.list], (0, "book", (wrong, self.scene.list)))
            self.check([self.scene.book, wrong, self.scene.list], (0, "book", (wrong, self.scene.list)))
        self.check([self.scene.book])
        self.check([self.scene.book, self.rival], (0, "book", (self.scene.book, self.rival)))
        self.check([self.scene.book, self.scene.list])

    def test_two_commits(self):
        one, two = self.scene.commits
        self.check([two, self.other], (2, "commits", (two, self.other)))
        self.check([self.other, one, two, one], (2, "commits", (self.other, two)))
        self.check([two, two, one])
        for body in ("x", -1, (), self.scene.numbers[1] + 50):
            more = self.letter(1, "commit", body)
            self.check([one, more], (1, "commits", (one, more)))

    def test_opens_that_do_not_fit(self):
        for at in (0, 1):
            salt, kind, ticket = REPORTS[at]
            for body in ((self.scene.number, "new", kind, ticket), (self.scene.number, salt, 1 - kind, ticket),
                         (self.scene.number, salt, kind, (1, 7)), (self.scene.number, (), "x", ()),
                         (self.scene.number, 0, 0, 0)):
                wrong = self.letter(at + 1, "open", body)
                self.check([wrong])
                self.check([wrong, self.scene.list], (at + 1, "open", (wrong, self.scene.list)))
                self.check([self.scene.list, wrong], (at + 1, "open", (self.scene.list, wrong)))
            # These are no opens for this list.
            for body in ((self.scene.number + 1, "new", kind, ticket), (self.scene.number, salt, kind),
                         (self.scene.number, salt, kind, ticket, 0), (), 7, self.scene.number,
                         (str(self.scene.number), salt, kind, ticket)):
                self.check([self.scene.list, self.letter(at + 1, "open", body)])

    def test_opens_and_lists_that_do_not_count(self):
        wrong = self.letter(1, "open", (self.scene.number, "new", 1, (1, 2)))
        self.check([wrong, self.scene.list[:4] + (10 ** 9,)])
        self.check([wrong, self.letter(1, "list", self.scene.list[3]), self.letter(2, "list", self.scene.list[3])])
        self.check([wrong, self.letter(0, "book", self.scene.list[3]), self.letter(0, "open", self.scene.list[3])])
        # The number of a list that does not stand.
        body = (self.scene.list[3][1], self.scene.list[3][0])
        fallen = self.letter(0, "list", body)
        number = self.scene.notary.number(("list", body))
        wrong = self.letter(1, "open", (number, "new", 1, (1, 2)))
        self.check([wrong, fallen], (0, "list", (fallen,)))
        # A list that nobody has numbered.
        wrong = self.letter(1, "open", (10 ** 9, "new", 1, (1, 2)))
        self.check([wrong, self.rival])

    def test_two_opens(self):
        first = self.scene.opens[0]
        for body in ((self.scene.number, "new", 1, (1, 2)), (self.scene.number, "salt", 0, (1, 2)),
                     (self.scene.number, "salt", 1, ZERO), (self.scene.number, (), (), ())):
            more = self.letter(1, "open", body)
            self.check([first, more], (1, "opens", (first, more)))
            self.check([more, first, more], (1, "opens", (more, first)))
        for body in ((self.scene.number + 1, "new", 1, (1, 2)), (self.scene.number, "salt", 1), (), 7,
                     (str(self.scene.number), "salt", 1, (1, 2)), (self.scene.number, "salt", 1, (1, 2), 0)):
            self.check([first, self.letter(1, "open", body)])
        # The first parts need not be numbers.
        pair = [self.letter(2, "open", ("x", at, at, at)) for at in (0, 1)]
        self.check(pair, (2, "opens", tuple(pair)))

    def test_letters_of_two_rounds(self):
        later = Scene(2, self.scene.notary)
        self.check(self.scene.letters + later.letters)
        self.check(later.letters + self.scene.letters)
        # Neither lists nor commits nor opens nor books of two rounds make a pair.
        self.check([self.scene.commits[1], self.letter(2, "commit", 77, 2)])
        self.check([self.scene.opens[0], self.letter(1, "open", (self.scene.number, "new", 1, (1, 2)), 2)])
        self.check([self.scene.list, self.letter(1, "open", (self.scene.number, "new", 1, (1, 2)), 2)])
        self.check([self.scene.list, self.letter(0, "book", 7, 2)])
        wrong = self.letter(0, "book", 7, 2)
        self.check([self.scene.list, wrong, later.list], (0, "book", (wrong, later.list)))
        # A pair within the second round counts, behind letters of the first one.
        more = self.letter(2, "commit", 77, 2)
        self.check([self.scene.commits[1], later.commits[1], more], (2, "commits", (later.commits[1], more)))
        # Calls of every round have the number of the terms.
        call = self.letter(0, "call", self.scene.due + 1, 9)
        self.check([self.scene.call, call], (0, "call", (call,)))

    def test_the_first_reason_counts(self):
        call = self.letter(0, "call", 99)
        fallen = self.letter(0, "list", 7)
        book = self.letter(0, "book", 7)
        values = [book, self.scene.list, self.rival, fallen, call]
        self.check(values, (0, "call", (call,)))
        self.check(values[:4], (0, "list", (fallen,)))
        self.check(values[:3], (0, "lists", (self.scene.list, self.rival)))
        self.check(values[:2], (0, "book", (book, self.scene.list)))
        wrong = self.letter(2, "open", (self.scene.number, "new", 1, ZERO))
        values = [wrong, self.scene.opens[1], self.scene.list, self.scene.commits[1], self.other]
        self.check(values, (2, "commits", (self.scene.commits[1], self.other)))
        self.check(values[:3], (2, "open", (wrong, self.scene.list)))
        self.check(values[:2], (2, "opens", (wrong, self.scene.opens[1])))

    def test_the_first_letters_count(self):
        calls = [self.letter(0, "call", body) for body in (99, 98, 97)]
        for order in itertools.permutations(calls):
            self.check([self.scene.call, *order], (0, "call", (order[0],)))
        commits = [self.letter(2, "commit", body) for body in (50, 60, 70)]
        for order in itertools.permutations(commits):
            self.check(order, (2, "commits", order[:2]))
            self.check([order[0]] + list(order), (2, "commits", order[:2]))
        opens = [self.letter(2, "open", (number, "x", at, 0)) for number in (1, 2) for at in (1, 2)]
        self.check([opens[0], opens[2], opens[3], opens[1]], (2, "opens", (opens[0], opens[1])))
        self.check([opens[2], opens[0], opens[1], opens[3]], (2, "opens", (opens[2], opens[3])))
        # Of two pairs with one first letter the second letters decide.
        wrong = [self.letter(1, "open", (self.scene.number, salt, 1, (1, 2))) for salt in ("a", "b")]
        self.check([self.scene.list, wrong[1], wrong[0]], (1, "open", (self.scene.list, wrong[1])))
        self.check([wrong[0], self.scene.list, wrong[1]], (1, "open", (wrong[0], self.scene.list)))

    def test_several_members(self):
        call = self.letter(0, "call", 99)
        more = self.letter(1, "commit", 99)
        opens = [self.letter(2, "open", (5, "x", at, 0)) for at in (0, 1)]
        values = opens[1:] + self.scene.letters + [more, call] + opens
        self.check(values, (0, "call", (call,)), (1, "commits", (self.scene.commits[0], more)),
                   (2, "opens", (opens[1], opens[0])))

    def test_letters_of_other_members_do_not_count(self):
        values = [self.letter(member, "call", 99) for member in (1, 2)]
        values += [self.letter(member, kind, 7) for member in (1, 2) for kind in ("list", "book")]
        values += [self.letter(member, kind, body) for member in (1, 2) for kind in ("list", "book") for body in (8, 9)]
        values += [self.letter(0, "commit", body) for body in (7, 8)]
        values += [self.letter(0, "open", (self.scene.number, "x", at, 0)) for at in (0, 1)]
        self.check(values + [self.scene.list])
        # Two commits of different members are no two commits of one.
        self.check([self.letter(1, "commit", 7), self.letter(2, "commit", 8)])

    def test_values_that_are_no_signed_letters(self):
        call = self.letter(0, "call", 99)
        values = [value for value in ODD_VALUES if not isinstance(value, (float, bytes, dict)) and type(value) is not object]
        for letter in (call, self.letter(0, "list", 7), self.letter(1, "commit", 99), self.other):
            values += [letter[:4] + (letter[4] + 1,), letter[:4] + (10 ** 9,), letter[:4], letter + (0,), list(letter),
                       (letter,), [letter], [[letter]], ((((letter,),),),), letter[:2] + (0,) + letter[3:-1] + (True,)]
        values += [nested(8), [nested(7)], [[[[[[[[None]]]]]]]], ("call", 1, 0, [[True]], 0)]
        before = [value for value in values if is_signed(self.scene.notary, value)]
        self.assertEqual(before, [])
        self.check(values)
        self.check(values + self.scene.letters + values)
        self.check(values + [call] + values, (0, "call", (call,)))

    def test_signed_values_of_no_members(self):
        scene = self.scene
        signature = scene.notary.sign(1, "one", ("list", 1, 7))
        self.check([("list", 1, 0, 7, signature), ("list", 1, 3, 7, signature), ("list", 1, -1, 7, signature)])


class Promises(unittest.TestCase):
    def test_courses_of_nets(self):
        source = seeded(271)
        reasons = {}
        for _ in range(150):
            net, game, rule, honest, _ = some_net(source)
            due = net.notary.number(terms(game, rule))
            run_net(source, net, game, due, honest, source.randint(10, 40 * len(honest)))
            letters = net.letters()
            values = source.sample(letters, source.randint(0, len(letters)))
            for value in source.sample([None, True, "x", (), [1, (2,)], 7, ("call", 1, 0, 0, -1)], 3):
                values.insert(source.randint(0, len(values)), value)
            for chosen in (letters, values):
                before = copy.deepcopy(chosen), state(net.notary)
                verdicts = convicted(game, rule, net.notary, chosen)
                self.assertEqual((chosen, state(net.notary)), before)
                if len(chosen) < 60:
                    self.assertEqual(verdicts, judged(game, rule, net.notary, chosen))
                for member, reason, proof in verdicts:
                    # Nobody who is honest is convicted, and the letters alone convict again.
                    self.assertFalse(honest[member])
                    self.assertTrue(proves(game, rule, net.notary, member, reason, proof))
                    alone = convicted(game, rule, net.notary, list(proof))
                    self.assertIn((member, reason, proof), alone)
                    reasons[reason] = reasons.get(reason, 0) + 1
                members = [member for member, _, _ in verdicts]
                self.assertEqual(members, sorted(set(members)))
        for reason in ("call", "list", "lists", "book", "commits", "open", "opens"):
            self.assertGreater(reasons.get(reason, 0), 2, reasons)

    def test_opens_for_different_lists_convict_the_desk(self):
        source = seeded(272)
        found = 0
        for _ in range(80):
            # One party helps the desk by commits of several kinds.
            honest = [False, True, True, True]
            honest[source.randint(1, 3)] = False
            net, game, rule, _, _ = some_net(source, honest)
            run_net(source, net, game, net.notary.number(terms(game, rule)), honest, 200, steady=False)
            numbers = {}
            for party in range(1, len(honest)):
                for letter in net.receipts_of(party):
                    if letter[0] == "open":
                        numbers[party] = letter[3][0]
            for first, second in itertools.combinations(numbers, 2):
                if numbers[first] != numbers[second]:
                    found += 1
                    receipts = net.receipts_of(first) + net.receipts_of(second)
                    verdicts = convicted(game, rule, net.notary, receipts)
                    self.assertEqual(verdicts[0][0], 0)
        self.assertGreater(found, 5)

    def test_two_lists_for_two_honest_parties(self):
        game = game_of([[[0, 1], [0, 2]]] * 3)
        rule = [([r(0), r(1)], [ZERO] * 3)] * 8
        reports = [(at % 2, f"s{at}", r(at, 7)) for at in range(3)]
        net = Net(game, rule, ["d", "a", "b", "c"], honest=[False, True, True, False], reports=reports)
        net.forge(0, "call", net.notary.number(terms(game, rule)))
        commits = net.deliver(0, 1) + net.deliver(0, 2)
        pairs = [net.letters()[at][3:] for at in commits]
        lists = []
        for number in (70, 80):
            at = net.forge(3, "commit", number)[0]
            lists.append(net.forge(0, "list", (*pairs, net.letters()[at][3:]))[0])
        self.assertEqual(len(net.deliver(lists[0], 1) + net.deliver(lists[1], 2)), 2)
        for party in (1, 2):
            self.assertEqual(convicted(game, rule, net.notary, net.receipts_of(party)), [])
        both = net.receipts_of(1) + net.receipts_of(2)
        proof = tuple(net.letters()[at] for at in lists)
        self.assertEqual(convicted(game, rule, net.notary, both), [(0, "lists", proof)])
        self.assertEqual(convicted(game, rule, net.notary, both[::-1]), [(0, "lists", proof[::-1])])

    def test_many_letters(self):
        # As many letters as a net holds, of a party that opens itself in many ways.
        scene = Scene()
        values = [scene.letter(1, "open", (at, "x", 0, 0)) for at in range(200)]
        values += [scene.letter(0, "book", scene.book[3]) for _ in range(200)] + [scene.list]
        self.assertEqual(scene.verdicts(values)[-1][:2], (1, "open"))


if __name__ == "__main__":
    unittest.main()

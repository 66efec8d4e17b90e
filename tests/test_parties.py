"""Points 98 to 101: parties, their results and receipts, and what a round promises."""

import copy
import itertools
import unittest

from tests.kit import (
    ODD_VALUES, ONE, ZERO, Wicked, game_of, letter_of, nested, plain, r, round_game, round_rule, seeded,
    some_game_and_rule, state,
)
from unbent.desk import Desk, terms
from unbent.errors import InvalidKeys, InvalidReport, InvalidRound, WrongKey
from unbent.games import Game, profile_number
from unbent.groups import drawn
from unbent.notary import Notary, is_signed
from unbent.parties import Party

KEYS = ["desk", "one", "two"]
REPORTS = [("salt", 1, (1, 2)), ("sand", 0, (2, 3))]


class Examples(unittest.TestCase):
    def test_of_the_interface(self):
        game = Game([("ann", [("low", (1, 1), (0, 1), [(0, 1), (1, 1)])])], ["none", "all"])
        rule = [([(0, 1), (1, 1)], [(0, 1)])]
        notary = Notary(["d", "a"])
        desk = Desk(game, rule, notary, "d", 1)
        party = Party(game, rule, notary, "a", 1, member=1, kind=0, salt="s", ticket=(1, 2))
        commits = party.take(desk.begin()[0])
        opens = party.take(desk.take(commits[0])[0])
        self.assertEqual(party.take(desk.take(opens[0])[0]), [])
        self.assertEqual(party.result, ((0,), 1))


def party_of(notary, member, game=None, rule=None, round_number=1, report=None):
    salt, kind, ticket = REPORTS[member - 1] if report is None else report
    return Party(round_game() if game is None else game, round_rule() if rule is None else rule, notary, KEYS[member],
                 round_number, member=member, kind=kind, salt=salt, ticket=ticket)


class Making(unittest.TestCase):
    def refused(self, error, notary=None, key="one", round_number=1, **changes):
        notary = Notary(KEYS) if notary is None else notary
        before = state(notary)
        told = {"member": 1, "kind": 0, "salt": "s", "ticket": ZERO}
        told.update(changes)
        with self.assertRaises(error) as caught:
            Party(round_game(), round_rule(), notary, key, round_number, **told)
        self.assertEqual(state(notary), before)
        return caught.exception

    def test_rounds(self):
        for round_number in (0, -1, True, False, None, "1", 1.5, 1.0, [], (1,)):
            self.refused(InvalidRound, round_number=round_number)
            self.refused(InvalidRound, Notary(KEYS[:2]), "wrong", round_number, member=9, kind=9, ticket=ONE)

    def test_numbers_of_members(self):
        for keys in (KEYS[:2], KEYS + ["three"]):
            self.refused(InvalidKeys, Notary(keys))
            self.refused(InvalidKeys, Notary(keys), "wrong", member=9, kind=9, ticket=ONE)

    def test_keys(self):
        for member, key in ((1, "two"), (1, "desk"), (1, ""), (2, "one"), (0, "desk"), (0, "one"), (3, "two"),
                            (-1, "two"), (-2, "one"), (99, "one")):
            error = self.refused(WrongKey, key=key, member=member)
            self.assertEqual(error.member, member)
            self.refused(WrongKey, key=key, member=member, kind=-1, ticket=ONE)

    def test_reports(self):
        for kind in (-1, 2, 100, True, False, None, "0", 0.0, (0,), [], ZERO):
            self.refused(InvalidReport, kind=kind)
        for ticket in (ONE, (-1, 2), (3, 2), (2, 4), (0, 2), (1, 0), (1, -2), (-1, -2), 0, 0.5, "0", "1/2", None, True,
                       (), (0,), (0, 1, 1), [0, 1], (False, 1), (0, True), (0, "1"), (10 ** 20, 10 ** 20 - 1)):
            self.refused(InvalidReport, ticket=ticket)
        for kind in (0, 1):
            for ticket in (ZERO, (1, 2), (10 ** 20 - 1, 10 ** 20)):
                notary = Notary(KEYS)
                Party(round_game(), round_rule(), notary, "two", 1, member=2, kind=kind, salt="", ticket=ticket)
                self.assertEqual(state(notary), state(Notary(KEYS)))


class Scene:
    """A round of two parties of which only the first one is a Party; the rest is signed by hand."""

    def __init__(self, round_number=1):
        self.round = round_number
        self.notary = Notary(KEYS)
        self.game = round_game()
        self.rule = round_rule()
        self.due = self.notary.number(terms(self.game, self.rule))
        self.call = self.letter(0, "call", self.due)
        self.numbers = [self.notary.number(("report",) + report) for report in REPORTS]
        self.commits = [self.letter(at + 1, "commit", number) for at, number in enumerate(self.numbers)]
        self.list = self.letter(0, "list", self.pairs(self.commits))
        other = self.letter(2, "commit", self.notary.number(("report", "other", 1, (1, 6))))
        self.rival = self.letter(0, "list", self.pairs([self.commits[0], other]))
        self.opens = [self.opening(at, self.list, report) for at, report in enumerate(REPORTS)]
        self.book = self.letter(0, "book", self.pairs(self.opens))
        rivals = [self.opening(0, self.rival, REPORTS[0]), self.opening(1, self.rival, ("other", 1, (1, 6)))]
        self.rival_book = self.letter(0, "book", self.pairs(rivals))
        self.rival_opens = rivals

    def letter(self, member, kind, body, round_number=None):
        return letter_of(self.notary, KEYS, member, kind, body, self.round if round_number is None else round_number)

    def pairs(self, letters):
        return tuple((letter[3], letter[4]) for letter in letters)

    def opening(self, at, listed, report):
        return self.letter(at + 1, "open", (self.notary.number(("list", listed[3])),) + report)

    def party(self):
        return party_of(self.notary, 1, self.game, self.rule, self.round)


class Taking(unittest.TestCase):
    def setUp(self):
        self.scene = Scene()

    def test_an_ordinary_round(self):
        scene, party = self.scene, self.scene.party()
        self.assertIsNone(party.result)
        self.assertEqual(party.receipts(), [])
        self.assertEqual(party.take(scene.call), [scene.commits[0]])
        self.assertEqual(party.take(scene.list), [scene.opens[0]])
        self.assertIsNone(party.result)
        self.assertEqual(party.take(scene.book), [])
        # The tickets 1/2 and 2/3 sum to 7/6, and 1/6 draws the first outcome of the lot 1/4, 3/4.
        self.assertEqual(party.result, ((1, 0), 0))
        self.assertEqual(party.receipts(), [scene.call, scene.commits[0], scene.list, scene.opens[0], scene.book])

    def test_each_order(self):
        # Each letter alone does what the letters before it allow.
        scene = self.scene
        letters = {"call": scene.call, "list": scene.list, "rival": scene.rival, "book": scene.book,
                   "rival book": scene.rival_book}
        answers = {"call": scene.commits[0], "list": scene.opens[0], "rival": scene.rival_opens[0]}
        for size in range(1, 6):
            for words in itertools.permutations(letters, size):
                party = scene.party()
                chosen, expected, receipts = None, None, []
                for word in words:
                    sent = []
                    if word == "call":
                        sent = [answers["call"]]
                    elif word in ("list", "rival"):
                        chosen = word if chosen is None else chosen
                        sent = [answers[word]] if chosen == word else []
                    elif expected is None and chosen is not None and (word == "book") == (chosen == "list"):
                        expected = ((1, 0), 0) if word == "book" else ((1, 1), 1)
                    receipts += [letters[word]] + sent
                    self.assertEqual(party.take(letters[word]), sent, words)
                    self.assertEqual(party.result, expected, words)
                    self.assertEqual(party.receipts(), receipts)

    def test_repeated_letters(self):
        scene, party = self.scene, self.scene.party()
        for _ in range(3):
            self.assertEqual(party.take(scene.call), [scene.commits[0]])
        for _ in range(3):
            self.assertEqual(party.take(scene.list), [scene.opens[0]])
        for _ in range(3):
            self.assertEqual(party.take(scene.book), [])
            self.assertEqual(party.result, ((1, 0), 0))
        self.assertEqual(party.take(scene.call), [scene.commits[0]])
        self.assertEqual(party.take(scene.list), [scene.opens[0]])
        self.assertEqual(party.take(scene.rival), [])
        self.assertEqual(party.take(scene.rival_book), [])
        self.assertEqual(party.result, ((1, 0), 0))
        self.assertEqual(party.receipts(), [scene.call, scene.commits[0], scene.list, scene.opens[0], scene.book,
                                            scene.rival, scene.rival_book])

    def test_calls_of_other_terms(self):
        scene, party = self.scene, self.scene.party()
        other = round_rule()
        other[0] = other[3]
        calls = [scene.letter(0, "call", scene.notary.number(terms(scene.game, other)))]
        calls += [scene.letter(0, "call", body) for body in (
            scene.due + 1, -1, 10 ** 9, str(scene.due), (scene.due,), terms(scene.game, scene.rule), "", ())]
        for call in calls:
            self.assertEqual(party.take(call), [])
        self.assertEqual(party.receipts(), calls)
        self.assertEqual(party.take(scene.call), [scene.commits[0]])
        self.assertEqual(party.receipts(), calls + [scene.call, scene.commits[0]])

    def test_terms_that_nobody_numbered(self):
        notary = Notary(KEYS)
        party = party_of(notary, 1)
        for body in (0, -1, 1, "None", ()):
            self.assertEqual(party.take(letter_of(notary, KEYS, 0, "call", body)), [])
        self.assertEqual(notary.number("first"), 0)

    def test_the_commit_is_a_number(self):
        # It depends on what was numbered before, not on what is in it.
        for report in (("salt", 0, ZERO), ("sand", 1, (1, 2))):
            notary = Notary(KEYS)
            due = notary.number(terms(round_game(), round_rule()))
            notary.number("more")
            party = party_of(notary, 2, report=report)
            self.assertIsNone(notary.known(("report",) + report))
            commit = letter_of(notary, KEYS, 2, "commit", 2)
            self.assertEqual(party.take(letter_of(notary, KEYS, 0, "call", due)), [commit])
            self.assertEqual(notary.known(("report",) + report), 2)
            self.assertEqual(party.take(letter_of(notary, KEYS, 0, "call", due)), [commit])

    def test_lists_that_are_ignored(self):
        scene, party = self.scene, self.scene.party()
        party.take(scene.call)
        own, others = scene.list[3]
        foreign = scene.letter(1, "commit", 99)
        bodies = [
            (others, own), (own,), (own, others, others), (own, own), (others, others), (), own, 7, "list",
            ((own[0], own[1] + 1), others), ((own[0] + 1, own[1]), others), (own, (others[0], others[1] + 1)),
            # Another commit that somebody signed with the party's key, so that the list stands.
            ((99, foreign[4]), others),
        ]
        for body in bodies:
            self.assertEqual(party.take(scene.letter(0, "list", body)), [], body)
        self.assertEqual(len(party.receipts()), 2 + len(bodies))
        # None of them has become the party's list.
        self.assertEqual(party.take(scene.rival), [scene.rival_opens[0]])
        self.assertEqual(party.take(scene.list), [])

    def test_a_list_before_the_call(self):
        # The commit in the list is signed with the party's key, so it is its own.
        party = self.scene.party()
        self.assertEqual(party.take(self.scene.list), [self.scene.opens[0]])
        self.assertEqual(party.take(self.scene.call), [self.scene.commits[0]])
        self.assertEqual(party.take(self.scene.book), [])
        self.assertEqual(party.result, ((1, 0), 0))

    def test_the_open_numbers_the_list(self):
        notary = Notary(KEYS)
        due = notary.number(terms(round_game(), round_rule()))
        party = party_of(notary, 1)
        commits = party.take(letter_of(notary, KEYS, 0, "call", due)) + [letter_of(notary, KEYS, 2, "commit", 50)]
        body = tuple((letter[3], letter[4]) for letter in commits)
        self.assertIsNone(notary.known(("list", body)))
        sent = party.take(letter_of(notary, KEYS, 0, "list", body))
        self.assertEqual(sent, [letter_of(notary, KEYS, 1, "open", (2,) + REPORTS[0])])
        self.assertEqual(notary.known(("list", body)), 2)

    def test_books_that_are_ignored(self):
        scene, party = self.scene, self.scene.party()
        self.assertEqual(party.take(scene.book), [])
        party.take(scene.call)
        self.assertEqual(party.take(scene.book), [])
        party.take(scene.list)
        first, second = scene.book[3]
        lie = scene.letter(2, "open", (first[0][0], "sand", 1, (2, 3)))
        for body in ((second, first), (first,), (first, first), (), 7, (first, second, second), scene.list[3],
                     (first, (second[0], second[1] + 1)), (first, (lie[3], lie[4])), scene.rival_book[3]):
            self.assertEqual(party.take(scene.letter(0, "book", body)), [])
            self.assertIsNone(party.result)
        party.take(scene.book)
        self.assertEqual(party.result, ((1, 0), 0))

    def test_letters_that_are_ignored(self):
        scene, party = self.scene, self.scene.party()
        ignored = list(ODD_VALUES) + scene.commits + scene.opens
        for letter in (scene.call, scene.list, scene.book):
            ignored += [scene.letter(0, letter[0], letter[3], 2), scene.letter(1, letter[0], letter[3]),
                        scene.letter(2, letter[0], letter[3]), scene.letter(0, "commit", letter[3]),
                        scene.letter(0, "open", letter[3]), letter[:4] + (letter[4] + 1,), letter[:4] + (10 ** 9,),
                        letter[:2] + (1,) + letter[3:], list(letter), letter[:4], letter + (0,), (letter,)]
        receipts = []
        for letter, answer in ((scene.call, [scene.commits[0]]), (scene.list, [scene.opens[0]]), (scene.book, [])):
            for value in ignored:
                self.assertEqual(party.take(value), [])
            self.assertIsNone(party.result)
            self.assertEqual(party.take(letter), answer)
            receipts += [letter] + answer
            self.assertEqual(party.receipts(), receipts)
        self.assertEqual(party.result, ((1, 0), 0))

    def test_another_round(self):
        scene = Scene(9)
        party = scene.party()
        for letter in (scene.call, scene.list, scene.book):
            party.take(letter)
        self.assertEqual(party.result, ((1, 0), 0))
        party = party_of(scene.notary, 1, scene.game, scene.rule, 8)
        for letter in (scene.call, scene.list, scene.book):
            self.assertEqual(party.take(letter), [])
        self.assertEqual((party.result, party.receipts()), (None, []))

    def test_what_was_told_may_change(self):
        scene = self.scene
        rule = round_rule()
        party = party_of(scene.notary, 1, scene.game, rule)
        rule[2][0][0], rule[2][0][1] = ZERO, ONE
        rule.pop()
        self.assertEqual(party.take(scene.call), [scene.commits[0]])
        party.take(scene.list)
        party.take(scene.book)
        self.assertEqual(party.result, ((1, 0), 0))
        party.receipts().clear()
        self.assertEqual(len(party.receipts()), 5)


class Results(unittest.TestCase):
    def result(self, tickets, lot):
        game = game_of([[[0, 0, 0]]] * len(tickets), lots=True)
        keys = [f"key {at}" for at in range(len(tickets) + 1)]
        notary = Notary(keys)
        rule = [(lot, [ZERO] * len(tickets))]
        desk = Desk(game, rule, notary, keys[0], 1)
        parties = [Party(game, rule, notary, keys[at + 1], 1, member=at + 1, kind=0, salt="", ticket=ticket)
                   for at, ticket in enumerate(tickets)]
        letters = desk.begin()
        for _ in range(3):
            sent = [answer for letter in letters for party in parties for answer in party.take(letter)]
            letters = [answer for letter in sent for answer in desk.take(letter)][:1]
        found = {party.result for party in parties}
        self.assertEqual(len(found), 1)
        return found.pop()

    def test_the_sum_of_the_tickets(self):
        lot = [r(1, 4), r(1, 4), r(1, 2)]
        for tickets, outcome in (
                ([ZERO], 0), ([r(1, 4)], 1), ([r(1, 2)], 2), ([r(99, 100)], 2),
                ([r(1, 2), r(1, 2)], 0), ([r(1, 2), r(3, 4)], 1), ([r(2, 3), r(2, 3)], 1), ([r(1, 2), r(1, 4)], 2),
                ([r(9, 10)] * 3, 2), ([r(3, 4)] * 4, 0), ([r(7, 8)] * 4, 2), ([r(5, 6)] * 4, 1), ([ZERO] * 4, 0)):
            self.assertEqual(self.result(tickets, lot), ((0,) * len(tickets), outcome), tickets)

    def test_random_tickets(self):
        source = seeded(241)
        for _ in range(150):
            tickets = []
            for _ in range(source.randint(1, 4)):
                below = source.randint(1, 12)
                tickets.append(r(source.randrange(below), below))
            parts = [source.randint(0, 4) for _ in range(3)]
            parts[source.randrange(3)] += 1
            lot = [r(part, sum(parts)) for part in parts]
            number = sum(plain(ticket) for ticket in tickets) % 1
            self.assertEqual(self.result(tickets, lot)[1], drawn(lot, r(number)))


class Round:
    """Members of one round, honest or not, and all letters that were sent."""

    def __init__(self, source, game, rule, honest):
        self.source = source
        self.game = game
        self.rule = rule
        self.keys = [f"key {at}" for at in range(len(game.agents) + 1)]
        self.notary = Notary(self.keys)
        self.honest = honest
        self.wicked = Wicked(source, self.notary, game, self.notary.number(terms(game, rule)))
        self.kinds = [source.randrange(len(kinds)) for _, kinds in game.agents]
        self.members = {}
        if honest[0]:
            self.members[0] = Desk(game, rule, self.notary, self.keys[0], 1)
        for at, kind in enumerate(self.kinds):
            if honest[at + 1]:
                below = source.randint(1, 6)
                self.members[at + 1] = Party(
                    game, rule, self.notary, self.keys[at + 1], 1, member=at + 1, kind=kind, salt=f"s{at}",
                    ticket=r(source.randrange(below), below))
        self.letters = self.members[0].begin() if honest[0] else []
        self.taken = {member: [] for member in self.members}

    def deliver(self, letter, member):
        if member in self.members:
            sent = self.members[member].take(letter)
            self.taken[member].append((letter, sent))
            self.letters += sent

    def forge(self):
        wicked = [member for member, honest in enumerate(self.honest) if not honest]
        if wicked:
            member = self.source.choice(wicked)
            kinds = ("call", "list", "book", "list", "book") if member == 0 else ("commit", "open")
            kind = self.source.choice(kinds)
            body = self.wicked.body(member, kind, self.letters)
            self.letters.append(letter_of(self.notary, self.keys, member, kind, body))

    def run(self, steps):
        for _ in range(steps):
            if self.source.random() < 0.4:
                self.forge()
            elif self.letters:
                # Late letters are more likely, so that rounds come to an end.
                late = self.letters[-4:] if self.source.random() < 0.6 else self.letters
                self.deliver(self.source.choice(late), self.source.randrange(len(self.keys)))

    def results(self):
        return {member: item.result for member, item in self.members.items() if member and item.result is not None}


class Promises(unittest.TestCase):
    def check(self, course):
        for member, party in course.members.items():
            if member == 0:
                continue
            has_list, seen = False, []
            for letter, sent in course.taken[member]:
                for answer in sent:
                    self.assertTrue(is_signed(course.notary, answer))
                    self.assertEqual((answer[1], answer[2]), (1, member))
                    has_list = has_list or answer[0] == "open"
                    if not has_list:
                        # Before the list all that was sent is the commit.
                        self.assertEqual((answer[0], type(answer[3])), ("commit", int))
                if letter[2] == 0 and letter[0] in ("call", "list", "book") and is_signed(course.notary, letter):
                    seen += [item for item in [letter] + sent if item not in seen]
            self.assertEqual(party.receipts(), seen)
            for kind in ("commit", "open"):
                self.assertLessEqual(len({item for item in seen if item[0] == kind}), 1)
        for profile, outcome in course.results().values():
            number = profile_number(course.game, profile)
            self.assertGreater(plain(course.rule[number][0][outcome]), 0)
            for member in course.members:
                if member:
                    self.assertEqual(profile[member - 1], course.kinds[member - 1])
        self.assertLessEqual(len(set(course.results().values())), 1)

    def test_rounds_with_members_that_are_not_honest(self):
        source = seeded(242)
        ended = 0
        for _ in range(400):
            game, rule = some_game_and_rule(source)
            honest = [source.random() < 0.5 for _ in range(len(game.agents) + 1)]
            before = state(game), copy.deepcopy(rule)
            course = Round(source, game, rule, honest)
            course.run(source.randint(10, 100 * len(honest)))
            self.check(course)
            self.assertEqual((state(game), rule), before)
            ended += bool(course.results()) and not all(honest)
        self.assertGreater(ended, 40)

    def test_rounds_of_honest_members(self):
        source = seeded(243)
        for _ in range(150):
            game, rule = some_game_and_rule(source)
            course = Round(source, game, rule, [True] * (len(game.agents) + 1))
            course.run(source.randint(0, 30))
            self.check(course)
            # Each letter reaches everybody, again and in any order, until nothing new is sent.
            count = -1
            while count < len(set(course.letters)):
                count = len(set(course.letters))
                for letter in source.sample(list(course.letters), len(course.letters)):
                    for member in source.sample(range(len(course.keys)), len(course.keys)):
                        course.deliver(letter, member)
            self.check(course)
            self.assertEqual(len(course.results()), len(game.agents))
            self.assertEqual(set(result[0] for result in course.results().values()), {tuple(course.kinds)})

    def test_deep_letters(self):
        notary = Notary(KEYS)
        party = party_of(notary, 1)
        for kind in ("call", "list", "book"):
            self.assertEqual(party.take(letter_of(notary, KEYS, 0, kind, nested(5))), [])
        self.assertEqual(len(party.receipts()), 3)


if __name__ == "__main__":
    unittest.main()

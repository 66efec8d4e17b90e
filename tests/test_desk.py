"""Points 96 and 97: the bodies of letters, and the desk."""

import copy
import itertools
import unittest

from tests.kit import (
    ODD_VALUES, ONE, ZERO, game_of, letter_of, nested, r, round_game, round_rule, seeded, state, state_of_notary,
)
from unbent.desk import Desk, book_fits, open_fits, stands, terms
from unbent.errors import InvalidKeys, InvalidRound, WrongKey
from unbent.game_text import write_game, write_rule
from unbent.notary import Notary, is_content, is_signed

KEYS = ["desk", "one", "two"]
REPORTS = [("report", "salt", 1, (1, 2)), ("report", "sand", 0, (2, 3))]


class Scene:
    """A round of two parties up to the book, with all bodies right."""

    def __init__(self, round_number=1):
        self.game = round_game()
        self.rule = round_rule()
        self.round = round_number
        self.notary = Notary(KEYS)
        self.call = self.notary.number(terms(self.game, self.rule))
        self.commits = [self.letter(at + 1, "commit", self.notary.number(report)) for at, report in enumerate(REPORTS)]
        self.list_body = tuple((letter[3], letter[4]) for letter in self.commits)
        self.number = self.notary.number(("list", self.list_body))
        self.open_bodies = [(self.number,) + report[1:] for report in REPORTS]
        self.opens = [self.letter(at + 1, "open", body) for at, body in enumerate(self.open_bodies)]
        self.book_body = tuple((letter[3], letter[4]) for letter in self.opens)

    def letter(self, member, kind, body, round_number=None):
        return letter_of(self.notary, KEYS, member, kind, body, self.round if round_number is None else round_number)

    def stands(self, body, round_number=None):
        before = state_of_notary(self.notary)
        found = stands(self.notary, self.game, self.round if round_number is None else round_number, body)
        assert state_of_notary(self.notary) == before
        return found

    def open_fits(self, party, body, round_number=1):
        before = state_of_notary(self.notary)
        found = open_fits(self.notary, self.game, round_number, party, self.list_body, body)
        assert state_of_notary(self.notary) == before
        return found

    def book_fits(self, body, round_number=1):
        before = state_of_notary(self.notary)
        found = book_fits(self.notary, self.game, round_number, self.list_body, body)
        assert state_of_notary(self.notary) == before
        return found


def with_item(values, at, value):
    return values[:at] + (value,) + values[at + 1:]


def changes_of_pairs(pairs):
    """Tuples like the pairs, each changed at one place so that it is no tuple of so many pairs."""
    yield from ((), pairs[:1], pairs[1:], pairs + pairs[:1], pairs + pairs, list(pairs), pairs[0], (pairs,))
    for at, pair in enumerate(pairs):
        for other in (pair[:1], pair[1:], pair + (0,), (), list(pair), None, 7, pair[0], (pair,), pair[::-1]):
            yield with_item(pairs, at, other)


class Terms(unittest.TestCase):
    def test_terms(self):
        game, rule = round_game(), round_rule()
        found = terms(game, rule)
        self.assertEqual(found, ("terms", write_game(game), write_rule(game, rule)))
        self.assertTrue(is_content(found))
        other = copy.deepcopy(rule)
        other[3][1][0] = r(4)
        self.assertNotEqual(terms(game, other), found)
        self.assertNotEqual(terms(game_of([[[0, 4], [0, 8]], [[3, 0], [1, 1]]], payments=True, lots=True), rule), found)


class Lists(unittest.TestCase):
    def setUp(self):
        self.scene = Scene()

    def test_a_list_that_stands(self):
        self.assertIs(self.scene.stands(self.scene.list_body), True)
        # Whatever the numbers say, as long as they are commits.
        other = self.scene.letter(1, "commit", 10 ** 30)
        self.assertIs(self.scene.stands(((other[3], other[4]), self.scene.list_body[1])), True)
        other = self.scene.letter(2, "commit", -5)
        self.assertIs(self.scene.stands((self.scene.list_body[0], (other[3], other[4]))), True)

    def test_other_rounds(self):
        for round_number in (0, 2, -1, 10 ** 20):
            self.assertIs(self.scene.stands(self.scene.list_body, round_number), False)
        other = self.scene.letter(1, "commit", self.scene.list_body[0][0], 2)
        self.assertIs(self.scene.stands(((other[3], other[4]), self.scene.list_body[1])), False)
        later = Scene(7)
        self.assertIs(later.stands(later.list_body), True)
        self.assertIs(later.stands(later.list_body, 1), False)

    def test_changed_pairs(self):
        first, second = self.scene.list_body
        for body in changes_of_pairs(self.scene.list_body):
            self.assertIs(self.scene.stands(body), False, body)
        for body in ((second, first), (first, first), (second, second), (first, second, first)):
            self.assertIs(self.scene.stands(body), False)

    def test_changed_numbers_and_signatures(self):
        for at, pair in enumerate(self.scene.list_body):
            number, signature = pair
            for other in ((number + 1, signature), (number, signature + 1), (number, -1), (True, signature),
                          (number, True), (number, False), (str(number), signature), ((number,), signature),
                          (number, None), (None, signature), (number - 1, signature), (number, 10 ** 9), (1.0, signature)):
                self.assertIs(self.scene.stands(with_item(self.scene.list_body, at, other)), False, other)

    def test_commits_whose_body_is_no_integer(self):
        for body in ("1", (1,), (), ""):
            letter = self.scene.letter(1, "commit", body)
            self.assertIs(self.scene.stands(((body, letter[4]), self.scene.list_body[1])), False)

    def test_signatures_of_other_kinds_and_members(self):
        first, second = self.scene.list_body
        for kind in ("open", "call", "list", "book"):
            letter = self.scene.letter(1, kind, first[0])
            self.assertIs(self.scene.stands(((first[0], letter[4]), second)), False)
        for member in (0, 2):
            letter = self.scene.letter(member, "commit", first[0])
            self.assertIs(self.scene.stands(((first[0], letter[4]), second)), False)

    def test_true_and_false(self):
        # The first party's commit has the body 1 and the signature 1, which True and False equal.
        notary = Notary(["d", "a"])
        game = game_of([[[0, 1]]])
        self.assertEqual(letter_of(notary, ["d", "a"], 1, "commit", 0)[4], 0)
        self.assertEqual(letter_of(notary, ["d", "a"], 1, "commit", 1)[4], 1)
        for body in (((0, 0),), ((1, 1),)):
            self.assertIs(stands(notary, game, 1, body), True)
        for body in (((False, 0),), ((0, False),), ((True, 1),), ((1, True),)):
            self.assertIs(stands(notary, game, 1, body), False)

    def test_values_of_every_kind(self):
        for value in ODD_VALUES + (nested(50), (nested(50), nested(50)), ((nested(50), 1), (1, 1))):
            self.assertIs(self.scene.stands(value), False)


class Opens(unittest.TestCase):
    def setUp(self):
        self.scene = Scene()

    def test_opens_that_fit(self):
        for at, body in enumerate(self.scene.open_bodies):
            self.assertIs(self.scene.open_fits(at + 1, body), True)
            self.assertIs(self.scene.open_fits(2 - at, body), False)

    def test_each_part_counts(self):
        for at, body in enumerate(self.scene.open_bodies):
            number, salt, kind, ticket = body
            for place, values in (
                    (0, (number + 1, 0, -1, str(number), (number,), True, False, None, 1.5)),
                    (1, ("", salt + " ", "Salt", 0, (salt,), None, [salt], nested(50))),
                    (2, (1 - kind, -1, 2, str(kind), (kind,), bool(kind), None, [kind])),
                    (3, (ZERO, (1, 3), (2, 4), (4, 6), ONE, (-1, 2), (3, 2), (1, -2), (1, 0), "1/2", 0, 1, (1,), (),
                         (1, 2, 1), [1, 2], None, (True, 2), (1, True), ("1", 2)))):
                for value in values:
                    self.assertIs(self.scene.open_fits(at + 1, with_item(body, place, value)), False, value)
            for other in (body[:3], body[1:], body + (0,), list(body), (body,), body[::-1], (), (body, 1)):
                self.assertIs(self.scene.open_fits(at + 1, other), False)

    def test_numbers_of_other_lists(self):
        other = self.scene.notary.number(("list", self.scene.list_body[::-1]))
        plain = self.scene.notary.number(self.scene.list_body)
        for number in (other, plain, self.scene.call):
            self.assertIs(self.scene.open_fits(1, (number,) + self.scene.open_bodies[0][1:]), False)

    def test_a_list_without_a_number(self):
        # Another second commit makes another list, which nobody has numbered.
        letter = self.scene.letter(2, "commit", 77)
        self.scene.list_body = (self.scene.list_body[0], (77, letter[4]))
        self.assertTrue(self.scene.stands(self.scene.list_body))
        for number in (self.scene.number, 0, 1, 99):
            self.assertIs(self.scene.open_fits(1, (number,) + REPORTS[0][1:]), False)
        number = self.scene.notary.number(("list", self.scene.list_body))
        self.assertIs(self.scene.open_fits(1, (number,) + REPORTS[0][1:]), True)
        # And a report without a number.
        self.assertIs(self.scene.open_fits(2, (number,) + REPORTS[1][1:]), False)
        self.assertIs(self.scene.open_fits(2, (number, "new", 0, ZERO)), False)

    def test_reports_that_are_none(self):
        # A party may commit itself to what is no report, but no open for it fits.
        for kind, ticket in ((2, ZERO), (-1, ZERO), ("0", ZERO), (0, ONE), (0, (-1, 2)), (0, (2, 4)), (0, 0), (0, "0"),
                             ((), ZERO), (0, (0, 1, 1)), (0, (7, 5))):
            notary = Notary(KEYS)
            commits = [letter_of(notary, KEYS, 1, "commit", notary.number(("report", "s", kind, ticket))),
                       letter_of(notary, KEYS, 2, "commit", notary.number(REPORTS[1]))]
            body = tuple((letter[3], letter[4]) for letter in commits)
            number = notary.number(("list", body))
            self.assertIs(stands(notary, self.scene.game, 1, body), True)
            self.assertIs(open_fits(notary, self.scene.game, 1, 1, body, (number, "s", kind, ticket)), False)
            self.assertIs(open_fits(notary, self.scene.game, 1, 2, body, (number,) + REPORTS[1][1:]), True)

    def test_true_in_the_place_of_a_number(self):
        # Here the number of the list is 1, and so is the kind.
        notary = Notary(["d", "a"])
        game = game_of([[[0, 1], [0, 2]]])
        letter = letter_of(notary, ["d", "a"], 1, "commit", notary.number(("report", "s", 1, (1, 2))))
        body = ((letter[3], letter[4]),)
        self.assertEqual(notary.number(("list", body)), 1)
        self.assertIs(open_fits(notary, game, 1, 1, body, (1, "s", 1, (1, 2))), True)
        for other in ((True, "s", 1, (1, 2)), (1, "s", True, (1, 2)), (1, "s", 1, (True, 2))):
            self.assertIs(open_fits(notary, game, 1, 1, body, other), False)

    def test_values_of_every_kind(self):
        for value in ODD_VALUES + (nested(50), (0, nested(50), 0, ZERO), (self.scene.number, nested(6), 0, ZERO)):
            self.assertIs(self.scene.open_fits(1, value), False)

    def test_the_limits_of_tickets_and_kinds(self):
        for kind, ticket in ((0, ZERO), (1, (10 ** 20 - 1, 10 ** 20)), (0, (1, 10 ** 20))):
            notary = Notary(["d", "a"])
            game = game_of([[[0, 1], [0, 2]]])
            letter = letter_of(notary, ["d", "a"], 1, "commit", notary.number(("report", "", kind, ticket)))
            body = ((letter[3], letter[4]),)
            number = notary.number(("list", body))
            self.assertIs(open_fits(notary, game, 1, 1, body, (number, "", kind, ticket)), True)


class Books(unittest.TestCase):
    def setUp(self):
        self.scene = Scene()

    def test_a_book_that_fits(self):
        self.assertIs(self.scene.book_fits(self.scene.book_body), True)

    def test_other_rounds(self):
        for round_number in (0, 2, -1):
            self.assertIs(self.scene.book_fits(self.scene.book_body, round_number), False)
        letter = self.scene.letter(1, "open", self.scene.open_bodies[0], 2)
        self.assertIs(self.scene.book_fits(((letter[3], letter[4]), self.scene.book_body[1])), False)

    def test_changed_pairs(self):
        first, second = self.scene.book_body
        for body in changes_of_pairs(self.scene.book_body):
            self.assertIs(self.scene.book_fits(body), False, body)
        for body in ((second, first), (first, first), (second, second), (first, second, second)):
            self.assertIs(self.scene.book_fits(body), False)

    def test_signed_opens_that_do_not_fit(self):
        for at in (0, 1):
            body = self.scene.open_bodies[at]
            for other in (with_item(body, 0, body[0] + 1), with_item(body, 1, "new"), with_item(body, 2, 1 - body[2]),
                          with_item(body, 3, (1, 7)), body[:3], body + (0,), (), 7, "open"):
                letter = self.scene.letter(at + 1, "open", other)
                changed = with_item(self.scene.book_body, at, (letter[3], letter[4]))
                self.assertIs(self.scene.book_fits(changed), False)

    def test_opens_that_fit_and_are_not_signed(self):
        for at in (0, 1):
            body, signature = self.scene.book_body[at]
            others = [signature + 1, -1, True, None, str(signature), self.scene.book_body[1 - at][1]]
            others += [self.scene.letter(at + 1, kind, body)[4] for kind in ("call", "commit", "list", "book")]
            others += [self.scene.letter(member, "open", body)[4] for member in (0, 2 - at)]
            for other in others:
                changed = with_item(self.scene.book_body, at, (body, other))
                self.assertIs(self.scene.book_fits(changed), False)

    def test_values_of_every_kind(self):
        for value in ODD_VALUES + (nested(50), ((nested(50), 0), (nested(50), 0)), self.scene.list_body):
            self.assertIs(self.scene.book_fits(value), False)


class Making(unittest.TestCase):
    def test_errors_in_their_order(self):
        game, rule = round_game(), round_rule()
        right, small, large = Notary(KEYS), Notary(KEYS[:2]), Notary(KEYS + ["three"])
        for round_number in (0, -1, True, False, None, "1", 1.5, 1.0, (1,), [], ()):
            for notary, key in ((right, "desk"), (small, "desk"), (right, "one")):
                with self.assertRaises(InvalidRound):
                    Desk(game, rule, notary, key, round_number)
        for notary in (small, large):
            for key in ("desk", "one", ""):
                with self.assertRaises(InvalidKeys):
                    Desk(game, rule, notary, key, 1)
        for key in ("one", "two", "", "Desk", "desk "):
            with self.assertRaises(WrongKey) as caught:
                Desk(game, rule, right, key, 1)
            self.assertEqual(caught.exception.member, 0)
        self.assertEqual(state(right), state(Notary(KEYS)))
        Desk(game, rule, right, "desk", 1)
        Desk(game, rule, right, "desk", 10 ** 30)
        self.assertEqual(state(right), state(Notary(KEYS)))


class Taking(unittest.TestCase):
    def setUp(self):
        self.scene = Scene()
        self.desk = Desk(self.scene.game, self.scene.rule, self.scene.notary, "desk", 1)
        self.list_letter = self.scene.letter(0, "list", self.scene.list_body)
        self.book_letter = self.scene.letter(0, "book", self.scene.book_body)

    def after(self, letters):
        """What a new desk sends to each of the letters."""
        desk = Desk(self.scene.game, self.scene.rule, self.scene.notary, "desk", 1)
        return [desk.take(letter) for letter in letters]

    def test_the_call(self):
        call = self.scene.letter(0, "call", self.scene.call)
        self.assertEqual(self.desk.begin(), [call])
        self.assertEqual(self.desk.begin(), [call])
        # The call numbers the terms if nobody has.
        notary = Notary(KEYS)
        desk = Desk(self.scene.game, self.scene.rule, notary, "desk", 3)
        notary.number("before")
        self.assertEqual(desk.begin(), [letter_of(notary, KEYS, 0, "call", 1, 3)])
        self.assertEqual(notary.known(terms(self.scene.game, self.scene.rule)), 1)

    def test_the_terms_are_those_at_the_making(self):
        rule = round_rule()
        desk = Desk(self.scene.game, rule, self.scene.notary, "desk", 1)
        rule[0] = rule[3]
        self.assertEqual(desk.begin(), [self.scene.letter(0, "call", self.scene.call)])

    def test_an_ordinary_round(self):
        one, two = self.scene.commits
        first, second = self.scene.opens
        self.assertEqual(self.after([one, two, first, second]), [[], [self.list_letter], [], [self.book_letter]])
        for letter in (self.list_letter, self.book_letter):
            self.assertTrue(is_signed(self.scene.notary, letter))

    def test_every_order(self):
        one, two = self.scene.commits
        first, second = self.scene.opens
        for letters in itertools.permutations([one, two, first, second]):
            commits, opens, expected = set(), set(), []
            for letter in letters:
                if letter[0] == "commit":
                    commits.add(letter)
                    expected.append([self.list_letter] if len(commits) == 2 else [])
                else:
                    # An open is not taken before the list.
                    if len(commits) == 2:
                        opens.add(letter)
                    expected.append([self.book_letter] if len(opens) == 2 else [])
            self.assertEqual(self.after(letters), expected)

    def test_repeated_letters(self):
        one, two = self.scene.commits
        first, second = self.scene.opens
        self.assertEqual(
            self.after([one, one, two, two, one, first, first, two, second, second, one, first]),
            [[], [], [self.list_letter], [self.list_letter], [self.list_letter], [], [], [self.list_letter],
             [self.book_letter], [self.book_letter], [self.list_letter], [self.book_letter]])

    def test_a_second_commit_of_a_party(self):
        one, two = self.scene.commits
        other = self.scene.letter(1, "commit", 99)
        # The first one stays, and the second one is answered like any other.
        self.assertEqual(self.after([one, other, two, other]), [[], [], [self.list_letter], [self.list_letter]])
        mixed = self.scene.letter(0, "list", ((99, other[4]), self.scene.list_body[1]))
        self.assertEqual(self.after([other, one, two, one]), [[], [], [mixed], [mixed]])

    def test_a_second_open_of_a_party(self):
        # The number of one content can be opened once only, so a second open that fits needs a second salt.
        one, two = self.scene.commits
        first, second = self.scene.opens
        for other in ((99,) + REPORTS[0][1:], with_item(first[3], 2, 0), with_item(first[3], 3, ZERO), 7, (), "x"):
            letter = self.scene.letter(1, "open", other)
            self.assertEqual(self.after([one, two, letter, second, first, letter]),
                             [[], [self.list_letter], [], [], [self.book_letter], []])

    def test_commits_whose_body_is_no_integer(self):
        one, two = self.scene.commits
        for body in ("1", (1,), (), "", nested(5)):
            letter = self.scene.letter(1, "commit", body)
            self.assertEqual(self.after([letter, two, letter, one, letter]),
                             [[], [], [], [self.list_letter], []])

    def test_letters_that_are_ignored(self):
        one, two = self.scene.commits
        first, second = self.scene.opens
        ignored = list(ODD_VALUES)
        for letter in (one, first):
            ignored.append(self.scene.letter(1, letter[0], letter[3], 2))
            ignored.append(self.scene.letter(0, letter[0], letter[3]))
            ignored.append(with_item(letter, 4, letter[4] + 1))
            ignored.append(with_item(letter, 4, 10 ** 9))
            ignored.append(with_item(letter, 2, 2))
            ignored.append(list(letter))
            for kind in ("call", "list", "book"):
                ignored.append(self.scene.letter(1, kind, letter[3]))
        ignored.append(self.scene.letter(1, "open", self.scene.list_body))
        ignored += [self.list_letter, self.book_letter, self.scene.letter(0, "call", self.scene.call)]
        expected = self.after([one, two, first, second])
        desk = Desk(self.scene.game, self.scene.rule, self.scene.notary, "desk", 1)
        for letter, answer in zip([one, two, first, second], expected):
            for value in ignored:
                self.assertEqual(desk.take(value), [])
            self.assertEqual(desk.take(letter), answer)

    def test_another_round(self):
        scene = Scene(5)
        desk = Desk(scene.game, scene.rule, scene.notary, "desk", 5)
        self.assertEqual([desk.take(letter) for letter in scene.commits + scene.opens], [
            [], [scene.letter(0, "list", scene.list_body)], [], [scene.letter(0, "book", scene.book_body)]])
        desk = Desk(scene.game, scene.rule, scene.notary, "desk", 6)
        self.assertEqual([desk.take(letter) for letter in scene.commits + scene.opens], [[], [], [], []])

    def test_taking_numbers_nothing(self):
        letters = self.scene.commits + self.scene.opens + [self.scene.letter(1, "open", (5, "new", 0, ZERO))]
        numbers = [self.scene.notary.number("first")]
        self.after(letters * 2)
        numbers.append(self.scene.notary.number("second"))
        self.assertEqual(numbers[1], numbers[0] + 1)

    def test_random_orders(self):
        source = seeded(231)
        for _ in range(100):
            letters = self.scene.commits + self.scene.opens + [
                self.scene.letter(source.choice((1, 2)), "commit", source.choice((5, 6))),
                self.scene.letter(1, "open", (self.scene.number, "salt", 0, (1, 2)))]
            course = [source.choice(letters) for _ in range(30)]
            before = copy.deepcopy(course)
            sent = [letter for answers in self.after(course) for letter in answers]
            self.assertEqual(course, before)
            # One list and one book, and the list holds the first commit of each party.
            for kind in ("list", "book"):
                self.assertLessEqual(len({letter for letter in sent if letter[0] == kind}), 1)
            first = [next(letter for letter in course + letters if letter[0] == "commit" and letter[2] == party)
                     for party in (1, 2)]
            for letter in sent:
                self.assertTrue(is_signed(self.scene.notary, letter))
                if letter[0] == "list":
                    self.assertEqual(letter[3], tuple((commit[3], commit[4]) for commit in first))


if __name__ == "__main__":
    unittest.main()

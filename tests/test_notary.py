"""Points 92 to 95: contents and their numbers, signatures, letters."""

import unittest

from tests.kit import ODD_VALUES, letter_of, nested, state
from unbent.errors import InvalidContent, InvalidKeys, WrongKey
from unbent.notary import Notary, is_content, is_signed

KEYS = ["desk key", "one key", "two key"]

# All different from each other, although some are alike.
CONTENTS = [
    1, "1", (1,), ((1,),), ("1",), (1, "1"), ("1", 1), (1, 1), (1, 1, 1), ((1, 1),), ((1,), (1,)), ((1,), 1), (1, (1,)),
    0, -1, -2, "", (), ((),), ((), ()), ("",), "a", "ab", ("a", "b"), ("ab",), "(1,)", "a b", "A", "a\n",
    10 ** 40, 10 ** 40 + 1, str(10 ** 40), nested(6), nested(6, 1), nested(6, "1"), nested(5), nested(4, "1"),
    ("call", 1, 0), ("terms", "game", "rule"), ("report", "s", 0, (1, 2)), ("report", "s", 0, (2, 4)),
]

NO_CONTENTS = [
    True, False, None, [], [1], {}, 1.0, b"a", (True,), (False,), (None,), ([],), ([1],), (1, True), (1, (2, None)),
    ((1, [2]),), ("a", ("b", (False,))), nested(7), nested(7, 1), nested(6, ()), nested(6, True), nested(8),
    (1, 2, nested(6)), (nested(6), 1), nested(50),
]


class Examples(unittest.TestCase):
    def test_of_the_interface(self):
        notary = Notary(["desk key", "one key", "two key"])
        self.assertEqual((notary.number("a"), notary.number(("a", 1)), notary.number("a"), notary.known("b")),
                         (0, 1, 0, None))
        signature = notary.sign(1, "one key", ("a", 1))
        self.assertEqual((notary.is_valid(1, ("a", 1), signature), notary.is_valid(2, ("a", 1), signature)),
                         (True, False))
        with self.assertRaises(WrongKey):
            notary.sign(2, "one key", "a")


class Keys(unittest.TestCase):
    def test_members(self):
        for keys in (["a", "b"], KEYS, ["a", "b", "c", "d", "e"], ["a", "A", " ", "a "]):
            notary = Notary(keys)
            self.assertEqual(notary.members, len(keys))
            for member, key in enumerate(keys):
                self.assertIs(notary.is_key(member, key), True)
                for other in keys:
                    self.assertIs(notary.is_key(member, other), key == other)
                self.assertIs(notary.is_key(member, ""), False)
            for member in (-1, -len(keys), len(keys), 99, True, False, "1", None):
                for key in keys:
                    self.assertIs(notary.is_key(member, key), False)

    def test_wrong_keys(self):
        for keys in ([], ["a"], [""], ["", "a"], ["a", ""], ["a", "a"], ["a", "b", "a"], ["a", "b", "b"], ["", ""],
                     ["a", "b", "c", ""]):
            with self.assertRaises(InvalidKeys):
                Notary(keys)

    def test_keys_are_copied(self):
        keys = list(KEYS)
        notary = Notary(keys)
        keys[1] = "changed"
        keys.append("more")
        self.assertEqual(notary.members, 3)
        self.assertTrue(notary.is_key(1, "one key"))
        self.assertFalse(notary.is_key(1, "changed"))


class Contents(unittest.TestCase):
    def test_contents(self):
        for content in CONTENTS:
            self.assertIs(is_content(content), True, content)
        for value in NO_CONTENTS:
            self.assertIs(is_content(value), False, value)
        for value in ODD_VALUES:
            self.assertIn(is_content(value), (True, False))

    def test_numbers_ascend_and_stay(self):
        notary = Notary(KEYS)
        for _ in range(2):
            self.assertEqual([notary.number(content) for content in CONTENTS], list(range(len(CONTENTS))))
        for at in (5, 0, 3):
            self.assertEqual(notary.number(CONTENTS[at]), at)
        self.assertEqual(notary.number("new"), len(CONTENTS))

    def test_known_numbers_nothing(self):
        notary = Notary(KEYS)
        for content in CONTENTS:
            self.assertIsNone(notary.known(content))
        self.assertEqual(notary.number(CONTENTS[7]), 0)
        for at, content in enumerate(CONTENTS):
            self.assertEqual(notary.known(content), 0 if at == 7 else None)

    def test_nothing_else_numbers(self):
        notary = Notary(KEYS)
        notary.sign(0, KEYS[0], "a")
        notary.is_valid(0, "b", 0)
        is_signed(notary, ("call", 1, 0, "c", 0))
        is_content("d")
        for content in ("a", "b", "c", "d", ("call", 1, "c")):
            self.assertIsNone(notary.known(content))
        self.assertEqual(notary.number("e"), 0)

    def test_values_that_are_no_contents(self):
        notary = Notary(KEYS)
        notary.number("a")
        for value in NO_CONTENTS:
            before = state(notary)
            for call in (notary.number, notary.known):
                with self.assertRaises(InvalidContent):
                    call(value)
            for member, key in ((1, "one key"), (1, "wrong"), (9, "one key"), (-1, "two key")):
                with self.assertRaises(InvalidContent):
                    notary.sign(member, key, value)
            self.assertIs(notary.is_valid(1, value, 0), False)
            self.assertEqual(state(notary), before)
        self.assertEqual(notary.number("b"), 1)

    def test_notaries_do_not_share_numbers(self):
        first, second = Notary(KEYS), Notary(KEYS)
        first.number("a")
        self.assertIsNone(second.known("a"))
        self.assertEqual(second.number("b"), 0)
        signature = first.sign(1, "one key", "a")
        self.assertFalse(second.is_valid(1, "a", signature))


class Signatures(unittest.TestCase):
    def test_each_is_valid_for_one_member_and_content(self):
        notary = Notary(KEYS)
        signed = {}
        for content in CONTENTS:
            for member, key in enumerate(KEYS):
                signature = notary.sign(member, key, content)
                self.assertIs(type(signature), int)
                self.assertEqual(notary.sign(member, key, content), signature)
                self.assertNotIn(signature, signed)
                signed[signature] = (member, content)
        for signature, (owner, own) in signed.items():
            for content in CONTENTS:
                for member in range(3):
                    self.assertIs(notary.is_valid(member, content, signature), (member, content) == (owner, own))
            self.assertEqual(notary.sign(owner, KEYS[owner], own), signature)

    def test_unsigned_contents_are_not_valid(self):
        notary = Notary(KEYS)
        signature = notary.sign(1, "one key", "a")
        for content in CONTENTS:
            if content != "a":
                self.assertIs(notary.is_valid(1, content, signature), False)
        for other in (signature + 1, signature - 1, -1, 10 ** 20):
            self.assertIs(notary.is_valid(1, "a", other), False)
        for member in (-2, 3, 0, 2):
            self.assertIs(notary.is_valid(member, "a", signature), False)

    def test_any_values_may_be_asked_about(self):
        notary = Notary(KEYS)
        zero = notary.sign(0, "desk key", "a")
        one = notary.sign(1, "one key", "a")
        for value in ODD_VALUES + (1.0, 0.0):
            if value not in (0, 1) or isinstance(value, (bool, float)):
                self.assertIs(notary.is_valid(value, "a", one), False)
                self.assertIs(notary.is_valid(value, "a", zero), False)
                self.assertIs(notary.is_valid(0, "a", value), False)
                self.assertIs(notary.is_valid(1, "a", value), False)
            self.assertIs(notary.is_valid(1, value, one), False)
            self.assertIs(notary.is_valid(value, value, value), False)

    def test_wrong_keys(self):
        notary = Notary(KEYS)
        notary.sign(1, "one key", "a")
        before = state(notary)
        for member, key in ((1, "two key"), (1, "desk key"), (1, ""), (1, "one key "), (0, "one key"), (2, "one key"),
                            (3, "two key"), (-1, "two key"), (-2, "one key"), (-3, "desk key"), (99, "one key")):
            with self.assertRaises(WrongKey) as caught:
                notary.sign(member, key, "a")
            self.assertEqual(caught.exception.member, member)
        self.assertEqual(state(notary), before)


class Letters(unittest.TestCase):
    def test_signed_letters(self):
        notary = Notary(KEYS)
        for member in range(3):
            for kind in ("call", "commit", "list", "open", "book"):
                for round_number in (1, 2, 0, -5):
                    for body in (7, "b", (1, 2), nested(5)):
                        letter = letter_of(notary, KEYS, member, kind, body, round_number)
                        self.assertIs(is_signed(notary, letter), True)

    def test_each_part_counts(self):
        notary = Notary(KEYS)
        letter = letter_of(notary, KEYS, 1, "call", 7)
        others = [letter_of(notary, KEYS, 2, "call", 7), letter_of(notary, KEYS, 1, "list", 7),
                  letter_of(notary, KEYS, 1, "call", 8), letter_of(notary, KEYS, 1, "call", 7, 2)]
        for other in others:
            self.assertTrue(is_signed(notary, other))
            for at in range(5):
                if letter[at] != other[at]:
                    mixed = letter[:at] + (other[at],) + letter[at + 1:]
                    self.assertIs(is_signed(notary, mixed), False)
        for at, value in ((0, "Call"), (0, "calls"), (0, ""), (0, 0), (1, 3), (2, 0), (2, -2), (2, 3), (3, "7"),
                          (3, (7,)), (3, 8), (4, letter[4] + 1), (4, -1), (4, 10 ** 9)):
            self.assertIs(is_signed(notary, letter[:at] + (value,) + letter[at + 1:]), False)

    def test_a_signature_of_another_content_makes_no_letter(self):
        notary = Notary(KEYS)
        # The kind "calls" is none, although it can be signed.
        signature = notary.sign(1, "one key", ("calls", 1, 7))
        self.assertIs(is_signed(notary, ("calls", 1, 1, 7, signature)), False)
        signature = notary.sign(1, "one key", ("call", "1", 7))
        self.assertIs(is_signed(notary, ("call", "1", 1, 7, signature)), False)
        # A content of three parts is no letter, and neither is a list.
        letter = letter_of(notary, KEYS, 1, "call", 7)
        for value in (letter[:3], letter[:4], letter + (0,), list(letter), (letter,), [letter]):
            self.assertIs(is_signed(notary, value), False)

    def test_true_and_false_are_no_numbers(self):
        notary = Notary(KEYS)
        letter = letter_of(notary, KEYS, 1, "call", 1)
        self.assertEqual(letter, ("call", 1, 1, 1, 0))
        for at, value in ((1, True), (2, True), (3, True), (4, False)):
            self.assertIs(is_signed(notary, letter[:at] + (value,) + letter[at + 1:]), False)
        for at, value in ((1, 1.0), (2, 1.0), (3, 1.0), (4, 0.0)):
            self.assertIs(is_signed(notary, letter[:at] + (value,) + letter[at + 1:]), False)

    def test_values_of_every_kind(self):
        notary = Notary(KEYS)
        letter_of(notary, KEYS, 0, "call", 0)
        before = state(notary)
        for value in ODD_VALUES + tuple(NO_CONTENTS) + tuple(CONTENTS):
            self.assertIs(is_signed(notary, value), False, value)
        self.assertEqual(state(notary), before)
        self.assertIs(is_signed(notary, ("call", 1, 0, 0, 0)), True)

    def test_deep_bodies(self):
        # A body of six levels is a content, but nobody can sign it within a letter.
        notary = Notary(KEYS)
        self.assertIs(is_signed(notary, letter_of(notary, KEYS, 1, "open", nested(5))), True)
        with self.assertRaises(InvalidContent):
            letter_of(notary, KEYS, 1, "open", nested(6))
        self.assertIs(is_signed(notary, ("open", 1, 1, nested(6), 0)), False)
        self.assertIs(is_signed(notary, ("open", 1, 1, nested(60), 0)), False)


if __name__ == "__main__":
    unittest.main()

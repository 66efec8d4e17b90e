"""Points 109 to 111: a journal, whose power may fail at any character."""

import unittest

from tests.kit import seeded, state
from unbent.errors import InvalidRecord
from unbent.journal import Journal

ALL = "".join(chr(code) for code in range(32, 127))


class Judge:
    """A journal, written character by character as point 109 says."""

    def __init__(self, text=""):
        self.written = text
        self.open_again()

    def open_again(self):
        self.on, self.fuse = True, None
        while self.written and self.written[-1] != "\n":
            self.written = self.written[:-1]

    def fail(self, count):
        if self.on:
            self.fuse = count
            self.on = count > 0

    def add(self, record):
        for character in record + "\n":
            if not self.on:
                return False
            self.written += character
            if self.fuse is not None:
                self.fuse -= 1
                self.on = self.fuse > 0
        return True

    def records(self):
        return self.written.split("\n")[:-1]


class Examples(unittest.TestCase):
    def test_of_the_interface(self):
        journal = Journal()
        self.assertIs(journal.add("one"), True)
        self.assertIsNone(journal.fail(5))
        self.assertEqual((journal.add("two"), journal.add("three"), journal.is_on), (True, False, False))
        self.assertEqual(journal.text(), "one\ntwo\nt")
        self.assertIsNone(journal.open_again())
        self.assertEqual((journal.text(), journal.records()), ("one\ntwo\n", ["one", "two"]))


class Texts(unittest.TestCase):
    def test_new_journals(self):
        for text, kept, records in (
                ("", "", []), ("\n", "\n", [""]), ("\n\n", "\n\n", ["", ""]), ("one\n", "one\n", ["one"]),
                ("one", "", []), ("one\ntwo", "one\n", ["one"]), ("one\n\ntw", "one\n\n", ["one", ""]),
                (" \n~\n ", " \n~\n", [" ", "~"]), (ALL + "\n" + ALL, ALL + "\n", [ALL])):
            journal = Journal(text)
            self.assertEqual((journal.text(), journal.records(), journal.is_on), (kept, records, True))
            self.assertIs(journal.add("more"), True)
            self.assertEqual(journal.text(), kept + "more\n")

    def test_wrong_texts(self):
        for character in ("\t", "\r", "\x00", "\x1f", "\x7f", "\x80", "\xe4", "\u2028", "\U0001f600", "\n\r"):
            for text in (character, "one\n" + character, character + "\n", "one" + character + "two\n"):
                with self.assertRaises(InvalidRecord):
                    Journal(text)

    def test_records(self):
        journal = Journal("a\n")
        for record in ("", " ", "~", "one two", ALL, "x" * 10000):
            self.assertIs(journal.add(record), True)
        self.assertEqual(journal.records(), ["a", "", " ", "~", "one two", ALL, "x" * 10000])
        self.assertEqual(journal.text(), "\n".join(journal.records()) + "\n")
        journal.records().clear()
        self.assertEqual(len(journal.records()), 7)

    def test_wrong_records(self):
        for character in ("\n", "\t", "\r", "\x00", "\x1f", "\x7f", "\x80", "\xe4", "\u2028"):
            for record in (character, "one" + character, character + "one", "a" + character + "b"):
                for fuse in (None, 0, 1, 2, 100):
                    journal = Journal("kept\n")
                    journal.add("more")
                    if fuse is not None:
                        journal.fail(fuse)
                    before = state(journal)
                    with self.assertRaises(InvalidRecord):
                        journal.add(record)
                    self.assertEqual(state(journal), before)
                    self.assertEqual(journal.is_on, fuse != 0)
        # Also where a record was cut off.
        journal = Journal()
        journal.fail(2)
        journal.add("one")
        with self.assertRaises(InvalidRecord):
            journal.add("\n")
        self.assertEqual(journal.text(), "on")


class Fuses(unittest.TestCase):
    def test_each_fuse(self):
        records = ["ab", "", "c", "def", ""]
        text = "ab\n\nc\ndef\n\n"
        for fuse in range(len(text) + 3):
            journal = Journal()
            journal.fail(fuse)
            found = [journal.add(record) for record in records]
            ends, reached = [], 0
            for record in records:
                reached += len(record) + 1
                ends.append(reached <= fuse)
            self.assertEqual(found, ends)
            self.assertEqual(journal.text(), text[:fuse])
            self.assertEqual(journal.records(), records[:sum(ends)])
            # One that ends exactly at a newline was written, and the power is off behind it.
            self.assertEqual(journal.is_on, fuse > len(text))
            # Opening once, and twice.
            for _ in range(2):
                journal.open_again()
                kept = "".join(record + "\n" for record in records[:sum(ends)])
                self.assertEqual((journal.text(), journal.records(), journal.is_on), (kept, records[:sum(ends)], True))
            self.assertIs(journal.add("x" * 100), True)

    def test_a_fuse_of_0(self):
        journal = Journal("one\n")
        journal.fail(0)
        self.assertIs(journal.is_on, False)
        for record in ("two", "", "x"):
            self.assertIs(journal.add(record), False)
        self.assertEqual(journal.text(), "one\n")

    def test_a_new_fuse(self):
        # The fuse is what was set last.
        journal = Journal()
        journal.fail(2)
        journal.fail(100)
        self.assertIs(journal.add("one two"), True)
        journal.fail(4)
        self.assertIs(journal.add("one"), True)
        self.assertIs(journal.is_on, False)
        # While the power is off, no fuse changes anything.
        for count in (100, 0, 1):
            journal.fail(count)
            self.assertEqual((journal.is_on, journal.add("x")), (False, False))
        journal.open_again()
        # Opening takes the fuse away, also while the power is on.
        journal.fail(3)
        journal.open_again()
        self.assertIs(journal.add("a long record"), True)
        self.assertIs(journal.is_on, True)
        journal.fail(3)
        journal.fail(0)
        self.assertIs(journal.is_on, False)

    def test_the_fuse_counts_down(self):
        journal = Journal()
        journal.fail(10)
        self.assertEqual([journal.add("ab"), journal.add("ab"), journal.add("ab"), journal.add("ab")],
                         [True, True, True, False])
        self.assertEqual(journal.text(), "ab\nab\nab\na")
        self.assertIs(journal.add(""), False)
        self.assertEqual(journal.text(), "ab\nab\nab\na")
        journal = Journal()
        journal.fail(9)
        self.assertEqual([journal.add("ab"), journal.add("ab"), journal.add("ab"), journal.add("")],
                         [True, True, True, False])
        self.assertEqual((journal.text(), journal.is_on), ("ab\nab\nab\n", False))

    def test_the_newline_may_be_missing_alone(self):
        journal = Journal()
        journal.fail(3)
        self.assertIs(journal.add("abc"), False)
        self.assertEqual((journal.text(), journal.records()), ("abc", []))
        journal.open_again()
        self.assertEqual(journal.text(), "")


class Promises(unittest.TestCase):
    def test_random_courses(self):
        source = seeded(281)
        cut = 0
        for _ in range(400):
            text = "".join(source.choice("ab\n ") for _ in range(source.randint(0, 8)))
            journal, judge = Journal(text), Judge(text)
            handed, reported, first = [], [], journal.records()
            missing = 0
            for _ in range(source.randint(0, 40)):
                way = source.random()
                if way < 0.6:
                    record = "".join(source.choice("abc d~") for _ in range(source.randint(0, 6)))
                    if journal.is_on:
                        handed.append(record)
                        missing += 1
                    found = journal.add(record)
                    self.assertIs(found, judge.add(record))
                    if found:
                        reported.append(record)
                        missing -= 1
                elif way < 0.8:
                    count = source.randint(0, 25)
                    journal.fail(count)
                    judge.fail(count)
                else:
                    cut += journal.text()[-1:] not in ("", "\n")
                    # At most the last record that was handed in since the last opening is missing.
                    self.assertLessEqual(missing, 1)
                    if missing:
                        handed.pop()
                    missing = 0
                    for item in [journal, judge]:
                        item.open_again()
                self.assertEqual((journal.text(), journal.records(), journal.is_on),
                                 (judge.written, judge.records(), judge.on))
                self.assertEqual(journal.records(), first + reported)
                self.assertEqual(handed[:len(reported)], reported)
                again = Journal(journal.text())
                self.assertEqual(again.records(), journal.records())
        self.assertGreater(cut, 50)


if __name__ == "__main__":
    unittest.main()

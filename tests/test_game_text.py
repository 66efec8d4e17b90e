"""Points 32 to 35: the texts of games and of rules."""

import unittest

from tests.kit import ONE, ZERO, entry_of, game_of, kind_of, r, rs, seeded, some_game, some_rule, state
from unbent.errors import TextError, TooLarge
from unbent.game_text import read_game, read_rule, write_game, write_rule
from unbent.games import Game, is_rule, profiles, same_game

TEXT = """game pay lots worst
outs none all some
agent ann
kind low 1/2 -1 0 1 -3/2
kind high 2 0 0 10/3 4
agent bob
kind low 0 5 1 2 3
part
bound 3/2
envy ann bob none some all
order bob none some
even
"""

GAME = Game(
    [
        ("ann", [("low", (1, 2), (-1, 1), [ZERO, ONE, (-3, 2)]), ("high", (2, 1), ZERO, [ZERO, (10, 3), (4, 1)])]),
        ("bob", [("low", ZERO, (5, 1), rs(1, 2, 3))]),
    ],
    ["none", "all", "some"], aim="worst", payments=True, lots=True,
    needs=[("part",), ("bound", (3, 2)), ("envy", 0, 1, [0, 2, 1]), ("order", 1, [0, 2]), ("even",)],
)

# The beginning of a text, to which faulty lines are added.
HEAD = "game total\nouts a b\n"
ANN = HEAD + "agent ann\nkind k 1 0 0 0\n"
BOB = ANN + "agent bob\nkind k 1 0 0 0\nkind l 1 0 0 0\n"


class Examples(unittest.TestCase):
    def test_of_the_interface(self):
        game = read_game("game pay paid\nouts none all\nagent ann\nkind low 1 0 0 1/2\npart")
        self.assertEqual(game.agents, [("ann", [("low", (1, 1), (0, 1), [(0, 1), (1, 2)])])])
        self.assertEqual(write_game(game), "game pay paid\nouts none all\nagent ann\nkind low 1 0 0 1/2\npart\n")
        with self.assertRaises(TextError):
            read_game("game total\nouts a a")


class Faulty(unittest.TestCase):
    def faulty(self, text, line, reason):
        with self.subTest(text[-60:]), self.assertRaises(TextError) as caught:
            read_game(text)
        self.assertEqual((caught.exception.line, caught.exception.reason), (line, reason))

    def next_line(self, start, line, reason):
        """The line behind a correct start is refused, whatever comes behind it."""
        number = start.count("\n") + 1
        for end in ("", "\n", "\nnonsense", "\n\n"):
            self.faulty(start + line + end, number, reason)


class GameTexts(unittest.TestCase):
    def test_line_by_line(self):
        self.assertTrue(same_game(read_game(TEXT), GAME))
        self.assertEqual(write_game(GAME), TEXT)

    def test_last_newline(self):
        self.assertTrue(same_game(read_game(TEXT[:-1]), GAME))

    def test_attributes(self):
        game = read_game(TEXT)
        self.assertEqual((game.aim, game.payments, game.lots), ("worst", True, True))
        self.assertEqual((game.agents, game.outcomes, game.needs), (GAME.agents, GAME.outcomes, GAME.needs))

    def test_heads(self):
        for aim in ("total", "worst", "paid"):
            for payments in (False, True):
                for lots in (False, True):
                    game = game_of([[[1]]], aim=aim, payments=payments, lots=lots)
                    head = "game " + "pay " * payments + "lots " * lots + aim
                    self.assertEqual(write_game(game).split("\n")[0], head)
                    self.assertTrue(same_game(read_game(write_game(game)), game))

    def test_every_need(self):
        for need, line in [
            (("part",), "part"), (("budget",), "budget"), (("even",), "even"), (("bound", ZERO), "bound 0"),
            (("bound", (7, 3)), "bound 7/3"), (("envy", 0, 1, [1, 0]), "envy ann bob two one"),
            (("envy", 0, 1, [0, 1]), "envy ann bob one two"), (("order", 1, [0, 1]), "order bob one two"),
            (("order", 0, [1]), "order ann two"),
        ]:
            game = game_of([[[1, 2]], [[3, 4]]], needs=[need])
            self.assertEqual(write_game(game).split("\n")[-2], line)
            self.assertTrue(same_game(read_game(write_game(game)), game))

    def test_random_games(self):
        source = seeded(61)
        for _ in range(200):
            game = some_game(source)
            before = state(game)
            text = write_game(game)
            self.assertTrue(same_game(read_game(text), game))
            self.assertEqual(write_game(read_game(text)), text)
            self.assertEqual(state(game), before)

    def test_numbers_that_are_too_long(self):
        long = 10 ** 1000
        with self.assertRaises(TooLarge):
            write_game(Game([("ann", [("low", (long, 1), ZERO, [ZERO])])], ["none"]))
        with self.assertRaises(TooLarge):
            write_game(Game([("ann", [kind_of("low", [0])])], ["none"], needs=[("bound", (1, long))]))

    def test_length(self):
        line = "order ann " + "a " * 5
        text = "game total\nouts a\nagent ann\nkind k 1 0 0\n"
        filled = text + "x" * (20000 - len(text))
        with self.assertRaises(TextError):
            read_game(filled)
        for longer in (filled + "x", filled + "\n", "\n" * 20001, " " * 20001, line * 9999):
            with self.assertRaises(TooLarge) as caught:
                read_game(longer)
            self.assertEqual(caught.exception.limit, "text")

    def test_a_game_of_20000_characters(self):
        # The numbers are as long as they may be, and the names, too.
        number = "-" + "9" * 12 + "/" + "1" * 11 + "3"
        lines = ["game pay lots total", "outs " + " ".join(letter * 12 for letter in "abcdef")]
        for letter in "ab":
            lines.append("agent " + letter * 12)
            for kind in "abcd":
                lines.append("kind " + kind * 12 + " 1" + (" " + number) * 7)
        for at in range(12):
            lines.append("order " + "a" * 12 + " " + " ".join(letter * 12 for letter in "abcdef"))
        text = "\n".join(lines) + "\n"
        self.assertLess(len(text), 20000)
        self.assertEqual(write_game(read_game(text)), text)


class Word(Faulty):
    def test_at_each_kind_of_line(self):
        for start in ("", "game total\n", HEAD, HEAD + "agent ann\n", ANN, BOB, BOB + "part\n"):
            for line in ("", " ", "nonsense", " game total", "game total ", "game  total", "agent ", "kind  k 1 0 0 0",
                         "part ", " part", "envy ann  bob a b", "Part", "outs\t", "rule", "at", "need part", "kinds",
                         "\tpart", "part\r"):
                if line == "" and not start.endswith("\n"):
                    continue
                self.next_line_or_end(start, line)

    def next_line_or_end(self, start, line):
        number = start.count("\n") + 1
        for end in ("\n", "\nnonsense", "\n\n"):
            self.faulty(start + line + end, number, "word")
        if line != "":
            self.faulty(start + line, number, "word")

    def test_empty_lines(self):
        self.faulty("\n", 1, "word")
        self.faulty("\n\n", 1, "word")
        self.faulty(TEXT + "\n", 13, "word")
        self.faulty("\n" + TEXT, 1, "word")

    def test_before_all_other_reasons(self):
        self.faulty("outs a  b", 1, "word")
        self.faulty("game total\nagent ", 2, "word")
        self.faulty(HEAD + "part ", 3, "word")


class Place(Faulty):
    def test_first_lines(self):
        for line in ("outs a b", "agent ann", "kind k 1 0 0 0", "part", "order ann a", "bound -1", "agent ANN x", "outs"):
            self.next_line("", line, "place")
        for line in ("game total", "game", "agent ann", "kind k 1 0 0 0", "part", "even even"):
            self.next_line("game total\n", line, "place")

    def test_later_lines(self):
        for start in (HEAD, HEAD + "agent ann\n", ANN, BOB, BOB + "part\n"):
            for line in ("game total", "game", "outs c", "outs", "outs a b c d e f g"):
                self.next_line(start, line, "place")

    def test_kinds_and_agents(self):
        self.next_line(HEAD, "kind k 1 0 0 0", "place")
        self.next_line(HEAD, "kind", "place")
        for line in ("kind m 1 0 0 0", "kind", "agent cid", "agent", "agent bob"):
            self.next_line(BOB + "part\n", line, "place")
            self.next_line(BOB + "order ann a\n", line, "place")


class Count(Faulty):
    def test_agents_without_kinds(self):
        for line in ("agent bob", "agent", "agent ann", "part", "part 1", "order ann a", "bound x", "envy"):
            self.next_line(HEAD + "agent ann\n", line, "count")
        for line in ("part", "order ann a", "bound", "envy a b", "even", "budget"):
            self.next_line(HEAD, line, "count")

    def test_agents(self):
        start = HEAD
        for name in "abcd":
            read_game(start + f"agent {name}\nkind k 1 0 0 0")
            start += f"agent {name}\nkind k 1 0 0 0\n"
        for line in ("agent e", "agent a", "agent", "agent E"):
            self.next_line(start, line, "count")

    def test_kinds(self):
        start = ANN + "kind l 1 0 0 0\nkind m 1 0 0 0\nkind n 1 0 0 0\n"
        read_game(start)
        for line in ("kind o 1 0 0 0", "kind k 1 0 0 0", "kind"):
            self.next_line(start, line, "count")

    def test_kinds_of_a_later_agent(self):
        start = ANN + "agent bob\n" + "".join(f"kind {name} 1 0 0 0\n" for name in "abcd")
        read_game(start)
        self.next_line(start, "kind e 1 0 0 0", "count")

    def test_outcomes(self):
        self.next_line("game total\n", "outs a b c d e f g", "count")
        self.next_line("game total\n", "outs a a a a a a a", "count")
        read_game("game total\nouts a b c d e f\nagent ann\nkind k 1 0 0 0 0 0 0 0")

    def test_needs(self):
        start = ANN + "order ann a\n" * 11 + "part\n"
        read_game(start)
        for line in ("even", "part", "order", "bound -1"):
            self.next_line(start, line, "count")

    def test_profiles(self):
        three = "".join(f"kind {name} 1 0 0 0\n" for name in "abc")
        start = HEAD + "agent ann\n" + three + "agent bob\n" + three
        read_game(start)
        read_game(start + "kind d 1 0 0 0")
        start += "agent cid\nkind a 1 0 0 0\n"
        read_game(start)
        self.next_line(start, "kind b 1 0 0 0", "count")
        self.next_line(start, "kind", "count")
        # Four times four is the limit; an agent that has no kind yet counts as one with a single one.
        four = "".join(f"kind {name} 1 0 0 0\n" for name in "abcd")
        start = HEAD + "agent ann\n" + four + "agent bob\n" + four + "agent cid\n"
        read_game(start + "kind a 1 0 0 0")
        self.next_line(start + "kind a 1 0 0 0\n", "kind b 1 0 0 0", "count")


class Words(Faulty):
    def test_game(self):
        for line in ("game", "game pay", "game lots", "game pay lots", "game lots pay total", "game total pay",
                     "game pay pay total", "game lots lots total", "game best", "game Total", "game total total",
                     "game pay lots total worst", "game total lots", "game game total", "game pays total"):
            self.next_line("", line, "words")

    def test_others(self):
        self.next_line("game total\n", "outs", "words")
        for line in ("agent", "agent bob cid", "agent ann ann"):
            self.next_line(ANN, line, "words")
        for line in ("kind", "kind l", "kind l 1 0 0", "kind l 1 0 0 0 0", "kind k 1 0 0", "kind L x"):
            self.next_line(ANN, line, "words")
        for line in ("part 1", "budget ann", "even 0", "bound", "bound 1 2", "bound x 2", "envy", "envy ann", "envy ann bob",
                     "envy ann bob a", "envy ann bob a b a", "envy cid dan x", "order", "order ann", "order cid"):
            self.next_line(BOB, line, "words")


class Names(Faulty):
    def test_names(self):
        for name in ("A", "a1", "a" * 13, "a-b", "\u00e4", "1", "a_b", "a\t"):
            self.next_line("game total\n", f"outs {name}", "name")
            self.next_line("game total\n", f"outs a {name} a", "name")
            self.next_line(ANN, f"agent {name}", "name")
            self.next_line(ANN, f"kind {name} 1 0 0 0", "name")
            self.next_line(ANN, f"kind {name} x 0 0 0", "name")

    def test_twice(self):
        self.next_line("game total\n", "outs a a", "twice")
        self.next_line("game total\n", "outs a b a B", "twice")
        self.next_line(BOB, "agent ann", "twice")
        self.next_line(BOB, "agent bob", "twice")
        self.next_line(ANN, "kind k 1 0 0 0", "twice")
        self.next_line(ANN, "kind k -1 x y z", "twice")

    def test_the_same_names_elsewhere(self):
        text = "game total\nouts ann low\nagent ann\nkind low 1 0 0 0\nkind ann 1 0 0 0\nagent low\nkind low 1 0 0 0\n"
        self.assertEqual(write_game(read_game(text)), text)
        text = "game total\nouts game outs agent kind part order\nagent even\nkind rule 1 0 0 0 0 0 0 0\norder even game\n"
        self.assertEqual(write_game(read_game(text)), text)

    def test_numbers(self):
        for number in ("x", "+1", "01", "2/4", "1/0", "3/1", "-0", "1.5", "1000000000000", "--1", "1/2/3"):
            for line in (f"kind l {number} 0 0 0", f"kind l 1 {number} 0 0", f"kind l 1 0 {number} 0",
                         f"kind l 1 0 0 {number}", f"bound {number}"):
                self.next_line(ANN, line, "number")
        for line in ("kind l -1 0 0 0", "kind l -1/2 0 0 0", "bound -1", "bound -1/1000"):
            self.next_line(ANN, line, "number")
        read_game(ANN + "kind l 0 -1 -1/2 -3\nbound 0")

    def test_unknown(self):
        for line in ("envy ann cid a b", "envy cid ann a b", "envy ann bob a c", "envy ann bob c a", "order cid a",
                     "order ann c", "order ann a b c", "order a ann", "envy a b ann bob", "order ANN a", "envy bob ann c c"):
            self.next_line(BOB, line, "unknown")


class Needs(Faulty):
    def test_needs(self):
        for line in ("envy bob ann a b", "envy ann ann a b", "envy ann bob a a", "envy ann bob b b", "order ann b a",
                     "order ann a a", "order bob a b b"):
            self.next_line(BOB, line, "need")

    def test_swaps(self):
        start = "game total\nouts a b c\nagent ann\nkind k 1 0 0 0 0\nagent bob\nkind k 1 0 0 0 0\n"
        for line in ("envy ann bob b c a", "envy ann bob c a b", "envy ann bob b a a"):
            self.next_line(start, line, "need")
        for line in ("envy ann bob b a c", "envy ann bob a c b", "envy ann bob c b a", "envy ann bob a b c"):
            read_game(start + line)

    def test_needs_that_are_excluded(self):
        for line in ("part", "budget", "even"):
            self.next_line(BOB + line + "\norder ann a\n", line, "need")
        self.next_line(BOB + "bound 1\n", "bound 1", "need")
        self.next_line(BOB + "bound 1\n", "bound 2", "need")
        self.next_line(BOB + "envy ann bob a b\npart\n", "envy ann bob b a", "need")
        read_game(BOB + "part\nbudget\neven\nbound 1\nenvy ann bob a b\norder ann a\norder ann a\n")


class End(Faulty):
    def test_missing_lines(self):
        for text in ("", "game total\n", HEAD, HEAD + "agent ann\n", ANN + "agent bob\n"):
            self.faulty(text, text.count("\n") + 1, "end")
            if text:
                self.faulty(text[:-1], text.count("\n") + 1, "end")


RULE_GAME = game_of([[[0, 1], [0, 3]], [[0, 1], [0, 2]]], payments=True, lots=True)
RULE_TEXT = """rule
at a a 1 0 0 0
at a b 1/2 1/2 -1 1/3
at b a 0 1 2 0
at b b 2/3 1/3 0 -7/2
"""
RULE = [
    entry_of([1, 0], [0, 0]),
    ([(1, 2), (1, 2)], [(-1, 1), (1, 3)]),
    entry_of([0, 1], [2, 0]),
    ([(2, 3), (1, 3)], [(0, 1), (-7, 2)]),
]


class RuleTexts(unittest.TestCase):
    def faulty(self, text, line, reason, game=RULE_GAME):
        with self.subTest(text[-60:]), self.assertRaises(TextError) as caught:
            read_rule(game, text)
        self.assertEqual((caught.exception.line, caught.exception.reason), (line, reason))

    def next_line(self, many, line, reason, game=RULE_GAME, text=RULE_TEXT):
        start = "".join(text.splitlines(True)[:many])
        for end in ("", "\n", "\nnonsense", "\n\n"):
            if line or end:
                self.faulty(start + line + end, many + 1, reason, game)

    def test_reading_and_writing(self):
        self.assertEqual(read_rule(RULE_GAME, RULE_TEXT), RULE)
        self.assertEqual(read_rule(RULE_GAME, RULE_TEXT[:-1]), RULE)
        self.assertEqual(write_rule(RULE_GAME, RULE), RULE_TEXT)

    def test_without_payments(self):
        game = game_of([[[0, 1], [0, 3]]])
        text = "rule\nat a 1 0\nat b 0 1\n"
        rule = [entry_of([1, 0], [0]), entry_of([0, 1], [0])]
        self.assertEqual(read_rule(game, text), rule)
        self.assertEqual(write_rule(game, rule), text)
        self.assertTrue(is_rule(game, read_rule(game, text)))
        self.next_line(1, "at a 1 0 0", "words", game, text)

    def test_random_rules(self):
        source = seeded(62)
        for _ in range(200):
            game = some_game(source)
            rule = some_rule(source, game, len(profiles(game)))
            text = write_rule(game, rule)
            self.assertEqual(read_rule(game, text), rule)
            self.assertEqual(write_rule(game, read_rule(game, text)), text)

    def test_word(self):
        for many in range(5):
            for line in ("", " ", "rules", "At a a 1 0 0 0", "at  a a 1 0 0 0", "at a a 1 0 0 0 ", " rule", "rule ", "game"):
                self.next_line(many, line, "word")
        self.faulty("\n", 1, "word")
        self.faulty(RULE_TEXT + "\n", 6, "word")

    def test_place(self):
        self.next_line(0, "at a a 1 0 0 0", "place")
        self.next_line(0, "at", "place")
        for many in range(1, 6):
            self.next_line(many, "rule", "place")
            self.next_line(many, "rule a a 1 0 0 0", "place")

    def test_count(self):
        for line in ("at a a 1 0 0 0", "at", "at x", "at b b 1 0 0 0"):
            self.next_line(5, line, "count")

    def test_words(self):
        self.next_line(0, "rule a", "words")
        self.next_line(0, "rule rule", "words")
        for many in range(1, 5):
            for line in ("at", "at a a 1 0", "at a a 1 0 0", "at a a 1 0 0 0 0", "at x"):
                self.next_line(many, line, "words")

    def test_unknown_and_order(self):
        self.next_line(1, "at x a 1 0 0 0", "unknown")
        self.next_line(1, "at a x 1 0 0 0", "unknown")
        self.next_line(1, "at a A 1 0 0 0", "unknown")
        self.next_line(1, "at x b 1 0 0 0", "unknown")
        self.next_line(1, "at b a 1 0 0 0", "order")
        self.next_line(1, "at a b 1 0 0 0", "order")
        self.next_line(1, "at b x 1 0 0 0", "order")
        self.next_line(2, "at a a 1 0 0 0", "order")
        self.next_line(1, "at x a y z 0 0", "unknown")
        self.next_line(1, "at b a y z 0 0", "order")

    def test_kinds_of_each_agent(self):
        game = Game([("ann", [kind_of("x", [0]), kind_of("y", [0])]), ("bob", [kind_of("z", [0])])], ["one"])
        text = "rule\nat x z 1\nat y z 1\n"
        self.assertEqual(len(read_rule(game, text)), 2)
        self.next_line(1, "at z z 1", "unknown", game, text)
        self.next_line(1, "at x y 1", "unknown", game, text)
        self.next_line(2, "at x x 1", "order", game, text)

    def test_number(self):
        for number in ("x", "+1", "2/4", "-0", "01", "1000000000000", "1/0"):
            for at in range(4):
                words = ["1", "0", "0", "0"]
                words[at] = number
                self.next_line(1, "at a a " + " ".join(words), "number")
        self.next_line(1, "at a a 7 0 0 x", "number")

    def test_entry(self):
        for line in ("at a a 1 1 0 0", "at a a 0 0 0 0", "at a a 2 -1 0 0", "at a a 1/2 1/3 0 0"):
            self.next_line(1, line, "entry")
        game = game_of([[[0, 1], [0, 3]]])
        text = "rule\nat a 1 0\nat b 0 1\n"
        self.next_line(1, "at a 1/2 1/2", "entry", game, text)
        self.next_line(2, "at b 1/3 2/3", "entry", game, text)

    def test_end(self):
        lines = RULE_TEXT.splitlines(True)
        for many in range(5):
            text = "".join(lines[:many])
            self.faulty(text, many + 1, "end")
            if text:
                self.faulty(text[:-1], many + 1, "end")

    def test_length(self):
        filled = "rule\n" + "x" * 19995
        self.faulty(filled, 2, "word")
        for longer in (filled + "x", "rule\n" * 4001, "\n" * 20001):
            with self.assertRaises(TooLarge) as caught:
                read_rule(RULE_GAME, longer)
            self.assertEqual(caught.exception.limit, "text")

    def test_numbers_that_are_too_long(self):
        rule = [*RULE[:3], (RULE[3][0], [r(10 ** 1000), ZERO])]
        with self.assertRaises(TooLarge):
            write_rule(RULE_GAME, rule)


if __name__ == "__main__":
    unittest.main()

"""Points 106 to 108: a house, which obeys lines."""

import copy
import itertools
import unittest
from fractions import Fraction

from tests.kit import r, rs, seeded
from unbent.best import find
from unbent.errors import InvalidLine, TooLarge
from unbent.game_text import read_game, read_rule, write_game
from unbent.games import Game
from unbent.groups import drawn
from unbent.house import House, answers_of
from unbent.ratios import make, show_ratio
from unbent.rules import value

# A game of one agent with payments, and rules for it: fair, with a lie, and one that is too dear.
GAME = ["game pay paid", "outs none all", "agent ann", "kind low 1 0 0 1", "kind high 1 0 0 3", "part"]
FAIR = ["rule", "at low 1 0 0", "at high 0 1 2"]
FREE = ["rule", "at low 1 0 0", "at high 0 1 0"]
DEAR = ["rule", "at low 0 1 2", "at high 0 1 2"]
# Two agents, lots, no payments.
PAIR = ["game lots total", "outs left right", "agent ann", "kind low 1 0 2 1", "kind high 1/2 0 1 2", "agent bob",
        "kind only 1 -1 1 3"]
PAIR_RULE = ["rule", "at low only 1/2 1/2", "at high only 1/4 3/4"]


def noted(name, lines):
    return [f"note {name} {line}" for line in lines]


def house_of(*lines):
    house = House()
    for line in lines:
        house.obey(line)
    return house


def ready():
    """A house with two games and four rules."""
    lines = noted("g", GAME) + noted("fair", FAIR) + noted("free", FREE) + noted("dear", DEAR)
    lines += noted("p", PAIR) + noted("pr", PAIR_RULE)
    lines += ["game g g", "game p p", "rule fair g fair", "rule free g free", "rule dear g dear", "rule pair p pr"]
    return house_of(*lines)


def kept(house):
    """All that a house keeps besides the lines and their answers."""
    parts = {name: item for name, item in vars(house).items() if name not in ("_obeyed", "_given")}
    return {name: {key: repr(vars(value)) if hasattr(value, "__dict__") else repr(value)
                   for key, value in item.items()} for name, item in parts.items()}


def long_game(source):
    """A game whose numbers are so long that those of its best rule are very long."""

    def long_ratio():
        return Fraction(source.randint(10 ** 11, 10 ** 12 - 1), source.randint(10 ** 11, 10 ** 12 - 1))

    agents = []
    for name in "abcd":
        kinds = []
        for kind in "ab":
            worths = [long_ratio() for _ in range(4)]
            # A little less than what all outcomes are worth on average.
            least = int(sum(worths) / 4 * source.randint(80, 99) / 100 * 10 ** 11)
            alone = Fraction(least, 10 ** 11 + source.randint(1, 10 ** 6))
            kinds.append((kind, r(long_ratio()), r(alone), rs(*worths)))
        agents.append((name, kinds))
    return Game(agents, list("abcd"), lots=True, needs=[("part",)])


class Base(unittest.TestCase):
    def check(self, house, *pairs):
        for line, answer in pairs:
            before, lines, answers = kept(house), house.lines(), house.answers()
            self.assertEqual(house.obey(line), answer, line)
            self.assertEqual((house.lines(), house.answers()), (lines + [line], answers + [answer]))
            if answer.startswith("refused"):
                self.assertEqual(kept(house), before)
        self.assertEqual(answers_of(house.lines()), house.answers())


class Examples(Base):
    def test_of_the_interface(self):
        house = House()
        self.assertEqual(house.obey("note n game total"), "noted 1")
        self.assertEqual(house.obey("note n outs none all"), "noted 2")
        self.assertEqual(house.obey("game g n"), "refused text 3 end")
        self.assertEqual((house.obey("note n agent ann"), house.obey("note n kind low 1 0 0 1"), house.obey("game g n")),
                         ("noted 3", "noted 4", "game 1 2 1"))
        self.assertEqual((house.obey("note r rule"), house.obey("note r at low 0 1"), house.obey("rule all g r")),
                         ("noted 1", "noted 2", "rule 1"))
        self.assertEqual((house.obey("judge all"), house.obey("open x all"), house.obey("close x 0")),
                         ("straight", "open", "refused open"))
        self.assertEqual((house.obey("tell x ann low"), house.obey("close x 0"), house.obey("audit all")),
                         ("told 1", "outcome all", "audit 1 0"))
        self.assertEqual(house.obey("game  g n"), "refused word")


class Lines(Base):
    def test_a_new_house(self):
        house = House()
        self.assertEqual((house.lines(), house.answers()), ([], []))
        for kind in ("notes", "games", "rules", "rounds"):
            self.assertEqual(house.names(kind), [])
        self.assertEqual(answers_of([]), [])

    def test_lengths_and_characters(self):
        house = House()
        line = "note n " + "x" * 193
        self.assertEqual(len(line), 200)
        self.check(house, (line, "noted 1"), ("~" * 200, "refused word"), (" " * 200, "refused word"))
        for wrong in (line + "x", "x" * 201, " " * 201, "note n x\n", "\n", "note\tn x", "note n \x7f", "note n \x1f",
                      "note n \xe4", "\x00", "note n \u2028", "x" * 200 + "\n"):
            before = kept(house), house.lines(), house.answers()
            with self.assertRaises(InvalidLine):
                house.obey(wrong)
            self.assertEqual((kept(house), house.lines(), house.answers()), before)
            with self.assertRaises(InvalidLine):
                answers_of(["note n x", wrong])

    def test_words(self):
        house = ready()
        for line in ("", " ", "  ", "note", "note n", " note n x", "note n x ", "note  n x", "note n  x", "note n x  y",
                     "Note n x", "notes n x", "x", "names games", "~", "-", "judge fair ", " judge fair", "judge  fair",
                     "close fair 0 ", "0"):
            word = "count" if line in ("note", "note n") else "word"
            self.check(house, (line, f"refused {word}"))

    def test_counts(self):
        house = ready()
        right = {"drop": 2, "game": 3, "rule": 4, "best": 3, "judge": 2, "open": 3, "tell": 4, "close": 3, "show": 2,
                 "audit": 2}
        for word, count in right.items():
            for size in range(1, 7):
                if size != count:
                    # Ahead of wrong names and of all that is unknown.
                    for other in ("fair", "Q"):
                        self.check(house, (" ".join([word] + [other] * (size - 1)), "refused count"))

    def test_names(self):
        house = ready()
        for name in ("A", "Note", "a1", "a-b", "1", "~", "abcdefghijklm", "aB", "_"):
            for line in ("note N x", "drop N", "game N no", "game N g", "rule N g fair", "rule N no no", "best N g",
                         "best N no", "open N fair", "open N no"):
                self.check(house, (line.replace("N", name), "refused name"))
            # Here it is the name of what there is or is not.
            for line in ("judge N", "audit N", "show N", "tell N ann low", "close N 0", "game new N", "best new N",
                         "rule new N fair", "rule new g N", "open new N"):
                self.check(house, (line.replace("N", name), "refused unknown"))
        self.check(house, ("note abcdefghijkl x", "noted 1"), ("drop abcdefghijkl", "dropped"))

    def test_lists_are_new(self):
        house = house_of("note n x")
        house.lines().clear()
        house.answers().clear()
        house.names("notes").clear()
        self.assertEqual((house.lines(), house.answers(), house.names("notes")), (["note n x"], ["noted 1"], ["n"]))

    def test_kinds_of_names(self):
        house = ready()
        house.obey("open x fair")
        house.obey("open b pair")
        self.assertEqual(house.names("notes"), ["dear", "fair", "free", "g", "p", "pr"])
        self.assertEqual(house.names("games"), ["g", "p"])
        self.assertEqual(house.names("rules"), ["dear", "fair", "free", "pair"])
        self.assertEqual(house.names("rounds"), ["b", "x"])
        for kind in ("", "note", "game", "Notes", "lines", "notes "):
            with self.assertRaises(InvalidLine):
                house.names(kind)


class Notes(Base):
    def test_lines_of_a_note(self):
        house = House()
        self.check(house, ("note n x", "noted 1"), ("note n x y z", "noted 2"), ("note m x", "noted 1"),
                   ("note n note", "noted 3"), ("note n ~!", "noted 4"))

    def test_60_lines_and_one_more(self):
        house = House()
        self.check(house, *[(f"note n line {at}", f"noted {at}") for at in range(1, 61)])
        self.check(house, ("note n x", "refused full"), ("note n x y", "refused full"), ("note m x", "noted 1"))
        self.check(house, ("note N x", "refused name"), ("note n", "refused count"), ("note n  x", "refused word"))
        self.check(house, ("drop n", "dropped"), ("note n x", "noted 1"))

    def test_drop(self):
        house = house_of("note n x", "note m y")
        self.check(house, ("drop o", "refused unknown"), ("drop n", "dropped"), ("drop n", "refused unknown"),
                   ("note n z", "noted 1"), ("drop m", "dropped"))
        self.assertEqual(house.names("notes"), ["n"])

    def test_what_was_made_of_a_note_stays(self):
        house = ready()
        self.check(house, ("drop g", "dropped"), ("drop fair", "dropped"), ("judge fair", "straight"),
                   ("best b g", "best 3"), ("game new g", "refused unknown"))
        self.check(house, ("note p x", "noted 8"), ("rule again p pr", "rule 2"))


class Games(Base):
    def test_games(self):
        house = ready()
        self.check(house, ("game new g", "game 1 2 2"), ("game other p", "game 2 2 2"))
        lines = ["game worst", "outs a b c", "agent ann"] + [f"kind {word} 1 0 0 0 0" for word in ("a", "b", "c", "d")]
        lines += ["agent bob"] + [f"kind {word} 1 0 0 0 0" for word in ("a", "b", "c", "d")]
        for line in noted("big", lines):
            house.obey(line)
        self.check(house, ("game big big", "game 2 3 16"))

    def test_reasons_in_their_order(self):
        house = ready()
        house.obey("note bad x")
        house.obey("open x fair")
        for name in ("g", "p", "fair", "free", "x"):
            for note in ("g", "no", "bad"):
                self.check(house, (f"game {name} {note}", "refused taken"))
        # A note has names of its own.
        self.check(house, ("game new no", "refused unknown"), ("game new x", "refused unknown"),
                   ("game new free", "refused text 1 word"), ("game dear g", "refused taken"), ("game bad g", "game 1 2 2"))

    def test_faults_of_texts(self):
        for lines, answer in (
                (["x"], "text 1 word"), (["outs a b"], "text 1 place"), (["game total", "outs a a"], "text 2 twice"),
                (["game total", "outs none all"], "text 3 end"), (["game"], "text 1 words"),
                (GAME[:4] + ["kind low 1 0 0 1"], "text 5 twice"), (GAME + ["agent bob"], "text 7 place"),
                (GAME[:3] + ["kind low 1 0 0 2/4"], "text 4 number"), (GAME + ["part"], "text 7 need"),
                (GAME[:3] + [f"kind {word} 1 0 0 1" for word in "abcde"], "text 8 count"),
                (GAME + ["envy ann bob none all"], "text 7 unknown"), (GAME[:2] + ["agent Ann"], "text 3 name")):
            house = house_of(*noted("n", lines))
            self.check(house, ("game g n", f"refused {answer}"))
            self.assertEqual(house.names("games"), [])
            # What is wrong is mended by the next lines, or not at all.
            self.check(house, ("drop n", "dropped"), ("game g n", "refused unknown"))


class Rules(Base):
    def test_rules(self):
        house = ready()
        self.check(house, ("rule new g fair", "rule 2"), ("rule other p pr", "rule 2"))

    def test_reasons_in_their_order(self):
        house = ready()
        house.obey("open x fair")
        house.obey("note bad x")
        for name in ("g", "p", "fair", "x"):
            for game, note in (("g", "fair"), ("no", "fair"), ("g", "no"), ("g", "bad")):
                self.check(house, (f"rule {name} {game} {note}", "refused taken"))
        for game, note in (("no", "fair"), ("g", "no"), ("no", "no"), ("no", "bad"), ("fair", "fair"), ("x", "fair"),
                           ("g", "x")):
            self.check(house, (f"rule new {game} {note}", "refused unknown"))
        self.check(house, ("rule new g bad", "refused text 1 word"), ("rule dear g fair", "refused taken"))

    def test_faults_of_texts(self):
        for lines, answer in (
                (["rule"], "text 2 end"), (FAIR[:2], "text 3 end"), (FAIR[1:], "text 1 place"),
                (FAIR + ["at low 1 0 0"], "text 4 count"), (["rule", "at low 1 0"], "text 2 words"),
                (["rule", "at mid 1 0 0"], "text 2 unknown"), (["rule", "at high 1 0 0"], "text 2 order"),
                (["rule", "at low 1 0 2/4"], "text 2 number"), (["rule", "at low 1/2 1/2 0"], "text 2 entry"),
                (["rule", "at low 1 1 0"], "text 2 entry"), (["rules"], "text 1 word")):
            house = ready()
            for line in noted("n", lines):
                house.obey(line)
            self.check(house, ("rule new g n", f"refused {answer}"))
            self.assertNotIn("new", house.names("rules"))

    def test_best(self):
        house = ready()
        self.check(house, ("best b g", "best 3"), ("judge b", "straight"), ("best c p", "best 13/2"),
                   ("judge c", "straight"))
        self.assertEqual(house.names("rules"), ["b", "c", "dear", "fair", "free", "pair"])
        for name, game in (("b", "g"), ("g", "no"), ("fair", "g"), ("p", "p")):
            self.check(house, (f"best {name} {game}", "refused taken"))
        for game in ("no", "fair", "b", "dear"):
            self.check(house, (f"best new {game}", "refused unknown"))

    def test_best_of_games_without_a_best_rule(self):
        # Nobody takes part; and payments without end.
        none = GAME[:3] + ["kind low 1 5 0 1", "kind high 1 5 0 3", "part", "bound 0"]
        endless = GAME[:5]
        house = house_of(*noted("n", none), *noted("e", endless), "game n n", "game e e")
        self.check(house, ("best b n", "none"), ("best b e", "endless"), ("best b n", "none"))
        self.assertEqual(house.names("rules"), [])
        self.check(house, ("judge b", "refused unknown"), ("game b n", "game 1 2 2"))

    def test_best_of_games_that_are_too_large(self):
        lines = ["game pay lots total", "outs a b c"]
        for name in ("ann", "bob"):
            lines += [f"agent {name}"] + [f"kind {word} 1 0 0 1 2" for word in ("a", "b", "c", "d")]
        house = house_of(*noted("n", lines), "game g n")
        self.check(house, ("best b g", "refused large"))
        self.assertEqual(house.names("rules"), [])
        self.check(house, ("open b b", "refused unknown"))

    def test_a_value_that_is_too_long(self):
        # The best rule is found, but its value has more than 1000 digits.
        game = long_game(seeded(17))
        kind, rule, _ = find(game)
        self.assertEqual(kind, "best")
        with self.assertRaises(TooLarge):
            show_ratio(value(game, rule))
        house = house_of(*noted("n", write_game(game).splitlines()), "game g n")
        self.assertEqual(house.answers()[-1], "game 4 4 16")
        self.check(house, ("best b g", "refused large"), ("judge b", "refused unknown"))
        self.assertEqual(house.names("rules"), [])


class Judging(Base):
    def test_judge(self):
        house = ready()
        self.check(house, ("judge fair", "straight"), ("judge free", "lie ann low high 1"), ("judge dear", "unmet 0"),
                   ("judge pair", "straight"), ("judge no", "refused unknown"), ("judge g", "refused unknown"))
        house.obey("open x fair")
        self.check(house, ("judge x", "refused unknown"))

    def test_the_first_lie_and_the_first_unmet_need(self):
        lines = ["game pay total", "outs none all", "agent ann", "kind low 1 0 0 1", "kind mid 1 0 0 2",
                 "kind high 1 0 0 3", "budget", "part", "bound 1"]
        house = house_of(*noted("g", lines), "game g g")
        for at, (entries, answer) in enumerate((
                (["low 0 1 1", "mid 0 1 1/2", "high 0 1 0"], "lie ann low mid 1/2"),
                (["low 1 0 0", "mid 0 1 3/2", "high 0 1 1"], "lie ann mid high 1/2"),
                (["low 1 0 0", "mid 1 0 0", "high 0 1 -1"], "lie ann low high 2"),
                (["low 0 1 2", "mid 0 1 2", "high 0 1 2"], "unmet 1"),
                (["low 1 0 -2", "mid 1 0 -2", "high 1 0 -2"], "unmet 0"),
                (["low 1 0 -2", "mid 1 0 -2", "high 0 1 1"], "unmet 0"),
                (["low 1 0 0", "mid 0 1 2", "high 0 1 2"], "unmet 2"),
                (["low 1 0 0", "mid 0 1 1", "high 0 1 1"], "straight"))):
            name = "r" + "abcdefgh"[at]
            for line in noted(name, ["rule"] + [f"at {entry}" for entry in entries]):
                house.obey(line)
            self.check(house, (f"rule {name} g {name}", "rule 3"), (f"judge {name}", answer),
                       (f"open x{name} {name}", "open" if answer == "straight" else "refused bent"))


class Rounds(Base):
    def test_open(self):
        house = ready()
        self.check(house, ("open x fair", "open"))
        for name, rule in (("x", "fair"), ("x", "no"), ("g", "fair"), ("fair", "fair"), ("fair", "free"), ("p", "no")):
            self.check(house, (f"open {name} {rule}", "refused taken"))
        for rule in ("no", "g", "x", "pr"):
            self.check(house, (f"open y {rule}", "refused unknown"))
        for rule in ("free", "dear"):
            self.check(house, (f"open y {rule}", "refused bent"))
        self.check(house, ("open dearx fair", "open"), ("open n fair", "open"), ("open y pair", "open"))
        self.assertEqual(house.names("rounds"), ["dearx", "n", "x", "y"])

    def test_tell(self):
        house = ready()
        house.obey("open x pair")
        for line in ("tell y ann low", "tell pair ann low", "tell x cid low", "tell x ann only", "tell x bob low",
                     "tell x Ann low", "tell x ann Low", "tell x only ann", "tell p ann low"):
            self.check(house, (line, "refused unknown"))
        self.check(house, ("tell x bob only", "told 1"), ("tell x bob only", "refused twice"),
                   ("tell x bob low", "refused unknown"), ("tell x ann high", "told 2"), ("tell x ann low", "refused twice"),
                   ("tell x ann high", "refused twice"), ("close x 0", "outcome left"))
        # Closed, ahead of twice; but what is unknown comes first.
        self.check(house, ("tell x ann low", "refused closed"), ("tell x bob only", "refused closed"),
                   ("tell x cid low", "refused unknown"), ("tell x ann only", "refused unknown"))

    def test_close(self):
        house = ready()
        house.obey("open x pair")
        self.check(house, ("close y 0", "refused unknown"), ("close pair 0", "refused unknown"),
                   ("close x 0", "refused open"), ("close x 1", "refused open"), ("close x x", "refused open"))
        self.check(house, ("tell x ann high", "told 1"), ("close x 0", "refused open"), ("tell x bob only", "told 2"))
        for ticket in ("1", "2", "-1", "-1/2", "3/2", "2/4", "0/1", "1/1", "+0", "-0", "00", ".5", "0.5", "1/", "/2", "x",
                       "1/0", "1234567890123/1234567890124", "~", "one"):
            self.check(house, (f"close x {ticket}", "refused number"))
        self.check(house, ("close x 1/4", "outcome right"), ("close x 0", "refused closed"),
                   ("close x x", "refused closed"), ("close x 1", "refused closed"))

    def test_outcomes_and_payments(self):
        house = ready()
        answers = {"low": "outcome none pays 0", "high": "outcome all pays 2"}
        for name, kind in (("x", "low"), ("y", "high")):
            self.check(house, (f"open {name} fair", "open"), (f"tell {name} ann {kind}", "told 1"),
                       (f"close {name} 1/3", answers[kind]))
        for at, (ticket, outcome) in enumerate((("0", "left"), ("1/4", "left"), ("1/2", "right"), ("2/3", "right"),
                                                ("99999999999/199999999999", "left"),
                                                ("100000000000/199999999999", "right"))):
            name = "r" + "abcdefgh"[at]
            self.check(house, (f"open {name} pair", "open"), (f"tell {name} ann low", "told 1"),
                       (f"tell {name} bob only", "told 2"), (f"close {name} {ticket}", f"outcome {outcome}"))
        # Texts of numbers with more than 12 digits are no texts of fractions.
        self.check(house, ("open z fair", "open"), ("tell z ann low", "told 1"),
                   ("close z 999999999999/1000000000000", "refused number"))

    def test_payments_of_several_agents(self):
        lines = ["game pay total", "outs a b", "agent ann", "kind k 1 0 0 0", "agent bob", "kind l 1 0 0 0"]
        rule = ["rule", "at k l 0 1 1/2 -3"]
        house = house_of(*noted("g", lines), *noted("r", rule), "game g g", "rule r g r", "open x r", "tell x bob l",
                         "tell x ann k")
        self.check(house, ("close x 0", "outcome b pays 1/2 -3"), ("show x", "kinds k l outcome b pays 1/2 -3"))

    def test_show(self):
        house = ready()
        self.check(house, ("show x", "refused unknown"), ("open x pair", "open"), ("show x", "refused open"),
                   ("tell x bob only", "told 1"), ("tell x ann high", "told 2"), ("show x", "refused open"),
                   ("close x 1/2", "outcome right"), ("show x", "kinds high only outcome right"),
                   ("show x", "kinds high only outcome right"), ("show pair", "refused unknown"))
        self.check(house, ("open y fair", "open"), ("tell y ann high", "told 1"), ("close y 0", "outcome all pays 2"),
                   ("show y", "kinds high outcome all pays 2"))

    def test_audit(self):
        house = ready()
        self.check(house, ("audit fair", "audit 0 0"), ("audit free", "audit 0 0"), ("audit no", "refused unknown"),
                   ("audit g", "refused unknown"), ("open x fair", "open"), ("audit x", "refused unknown"),
                   ("audit fair", "audit 0 0"), ("tell x ann low", "told 1"), ("audit fair", "audit 0 0"),
                   ("close x 0", "outcome none pays 0"), ("audit fair", "audit 1 0"))
        for name in ("y", "z", "w"):
            for line in (f"open {name} fair", f"tell {name} ann high", f"close {name} 1/2"):
                house.obey(line)
        self.check(house, ("open v fair", "open"), ("audit fair", "audit 4 0"), ("audit pair", "audit 0 0"))

    def test_names_are_shared_by_games_rules_and_rounds(self):
        house = ready()
        house.obey("open x fair")
        for name in ("g", "fair", "x"):
            for line in (f"game {name} g", f"rule {name} g fair", f"best {name} g", f"open {name} fair"):
                self.check(house, (line, "refused taken"))
            # But not by notes.
            count = {"g": 7, "fair": 4, "x": 1}[name]
            self.check(house, (f"note {name} part", f"noted {count}"))


class Promises(Base):
    def test_what_is_told_cannot_be_seen_before_the_close(self):
        courses = []
        for kinds in itertools.product(("low", "high"), repeat=2):
            house = ready()
            lines = ["open x fair", "open y fair"]
            lines += [f"tell {name} ann {kind}" for name, kind in zip("xy", kinds)]
            lines += ["show x", "show y", "audit fair", "judge fair", "close x 1", "tell x ann low", "tell y ann high"]
            courses.append([house.obey(line) for line in lines])
        self.assertEqual(courses, [courses[0]] * 4)

    def some_line(self, source):
        names = ("g", "p", "fair", "free", "pair", "x", "y", "z", "no", "n")
        name, other = source.choice(names), source.choice(names)
        played, told = source.choice("xyz"), source.choice(("ann low", "ann high", "bob only", "bob low"))
        ticket = source.choice(("0", "1/2", "3/4", "1", "x"))
        line = source.choice((
            f"tell {played} {told}", f"tell {played} {told}", f"close {played} {ticket}", f"show {played}",
            f"open {played} {source.choice(('fair', 'pair', other))}", f"open {name} {other}", f"audit {name}",
            f"judge {name}", f"game {name} {other}", f"rule {name} {other} {other}", f"best {name} {other}",
            f"note {name} {source.choice(GAME + FAIR + ['x'])}", f"drop {name}"))
        if source.random() < 0.05:
            at = source.randint(0, len(line))
            line = line[:at] + source.choice((" ", "Q", "x ")) + line[at:]
        return line

    def test_random_courses(self):
        source = seeded(291)
        words = {}
        for _ in range(30):
            house = ready()
            twin = ready()
            for _ in range(150):
                line = self.some_line(source)
                before = kept(house)
                answer = house.obey(line)
                words[answer.split(" ")[0]] = words.get(answer.split(" ")[0], 0) + 1
                if answer.startswith("refused"):
                    self.assertEqual(kept(house), before)
                if answer.startswith("audit"):
                    self.assertTrue(answer.endswith(" 0"))
                if answer == "open":
                    self.assertEqual(copy.deepcopy(house).obey("judge " + line.split(" ")[2]), "straight")
                self.assertEqual(twin.obey(line), answer)
            self.assertEqual(answers_of(house.lines()), house.answers())
            names = house.names("games") + house.names("rules") + house.names("rounds")
            self.assertEqual(len(names), len(set(names)))
        for word in ("told", "outcome", "open", "kinds", "audit", "straight", "refused", "noted", "dropped", "best"):
            self.assertGreater(words.get(word, 0), 5, words)

    def test_a_close_gives_the_entry_of_the_rule(self):
        game = read_game("\n".join(PAIR))
        rule = read_rule(game, "\n".join(PAIR_RULE))
        for kind in (0, 1):
            for at in range(12):
                ticket = make(at, 12)
                house = ready()
                house.obey("open x pair")
                house.obey(f"tell x ann {('low', 'high')[kind]}")
                house.obey("tell x bob only")
                text = f"{ticket[0]}/{ticket[1]}" if ticket[1] > 1 else str(ticket[0])
                outcome = game.outcomes[drawn(rule[kind][0], ticket)]
                self.assertEqual(house.obey(f"close x {text}"), f"outcome {outcome}")

    def test_houses_share_nothing(self):
        first, second = House(), House()
        first.obey("note n x")
        self.assertEqual((second.names("notes"), second.lines()), ([], []))


if __name__ == "__main__":
    unittest.main()

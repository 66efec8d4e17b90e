"""Points 50 to 53, and the two facts of point 2: the search for a best rule, and its check."""

import copy
import itertools
import unittest
from fractions import Fraction

from tests.kit import ONE, ZERO, entry_of, game_of, judged_certificate, kind_of, plain, r, rs, seeded, some_game, state
from tests.test_rules import Judge
from unbent.best import accepts, find
from unbent.errors import TooLarge
from unbent.games import Game, is_rule
from unbent.model import is_good, program_of, rule_at, whole_variables
from unbent.rules import constant, mixture, value
from unbent.whole import accepts_tree

NAMES = ["ann", "bob", "cid", "dan"]
LETTERS = "abcd"


def example():
    low = ("low", (1, 1), (0, 1), [(0, 1), (0, 1)])
    high = ("high", (1, 1), (0, 1), [(0, 1), (3, 1)])
    return Game([("ann", [low, high])], ["none", "all"], payments=True, aim="paid", needs=[("part",)])


def sized(sizes, outcomes, **more):
    """A game with so many kinds and outcomes; every kind values the outcome of its own number."""
    worths = [[[int(o == (agent + kind) % outcomes) for o in range(outcomes)] for kind in range(size)]
              for agent, size in enumerate(sizes)]
    return game_of(worths, ["one", "two", "three", "four", "five", "six"][:outcomes], **more)


class Examples(unittest.TestCase):
    def test_of_the_interface(self):
        game = example()
        answer = find(game)
        self.assertEqual((answer[0], value(game, answer[1]), accepts(game, answer)), ("best", (3, 1), True))


def plain_rules(game):
    """All rules of a game without lots and payments."""
    sizes = [len(kinds) for _, kinds in game.agents]
    count = len(list(itertools.product(*map(range, sizes))))
    lots = [[ONE if at == o else ZERO for at in range(len(game.outcomes))] for o in range(len(game.outcomes))]
    for chosen in itertools.product(lots, repeat=count):
        yield [(list(lot), [ZERO] * len(sizes)) for lot in chosen]


def judged_best(game):
    """The greatest value of a good rule, by going through all rules; None if there is no good one."""
    best = None
    for rule in plain_rules(game):
        judge = Judge(game, rule)
        if all(judge.meets(need) for need in game.needs) and not any(lie[4] > 0 for lie in judge.lies()):
            best = judge.value() if best is None else max(best, judge.value())
    return best


class AllRules(unittest.TestCase):
    def test_without_lots_and_payments(self):
        source = seeded(801)
        kinds = []
        for _ in range(150):
            sizes = source.choice(([2], [3], [2, 2], [3, 2], [1, 3]))
            outcomes = source.randint(1, 3 if len(sizes) == 1 or sizes == [2, 2] else 2)
            agents = []
            for name, size in zip(NAMES, sizes):
                agents.append((name, [kind_of(LETTERS[at], [source.randint(-2, 3) for _ in range(outcomes)],
                                              Fraction(source.randint(0, 3), 2), source.randint(-3, 0))
                                      for at in range(size)]))
            needs = [("part",)] * (source.random() < 0.6)
            if len(sizes) > 1 and source.random() < 0.4:
                needs.append(("envy", 0, 1, list(range(outcomes))[::-1]))
            if source.random() < 0.5:
                needs.append(("order", source.randrange(len(sizes)), [source.randrange(outcomes)]))
            game = Game(agents, ["one", "two", "three"][:outcomes], aim=source.choice(("total", "worst", "paid")),
                        needs=needs)
            before = state(game)
            best = judged_best(game)
            answer = find(game)
            kinds.append(answer[0])
            self.assertTrue(accepts(game, answer))
            if best is None:
                self.assertEqual(answer[:2], ("none", None))
            else:
                self.assertEqual(answer[0], "best")
                self.assertEqual(plain(value(game, answer[1])), best)
                self.assertTrue(is_good(game, answer[1]))
            self.assertEqual(state(game), before)
            self.assertEqual(find(game), answer)
        self.assertGreater(kinds.count("none"), 10)
        self.assertGreater(kinds.count("best"), 50)


class Answers(unittest.TestCase):
    def check(self, game, kind, amount=None):
        answer = find(game)
        self.assertEqual(answer[0], kind)
        self.assertIsInstance(answer, tuple)
        self.assertIs(accepts(game, answer), True)
        if kind == "none":
            self.assertIsNone(answer[1])
        else:
            self.assertTrue(is_rule(game, answer[1]))
            self.assertTrue(is_good(game, answer[1]))
            self.assertEqual(answer[1], rule_at(game, answer[2][1]))
        if kind == "best":
            self.assertEqual(value(game, answer[1]), r(amount))
        return answer

    def test_best(self):
        # A lot brings more here: 1/2 for each of the first two, or the third one for certain.
        worths = [[[4, 0, 1], [0, 4, 1]], [[0, 4, 1], [4, 0, 1]]]
        self.check(game_of(worths, aim="worst", lots=True), "best", 2)
        self.check(game_of(worths, aim="worst"), "best", 1)

    def test_best_with_payments(self):
        needs = [("part",)]
        self.check(example(), "best", 3)
        worths = [[[0, 1], [0, 2]], [[0, 0]]]
        self.check(game_of(worths, aim="paid", payments=True, needs=needs), "best", 2)
        self.check(game_of(worths, aim="paid", payments=True, lots=True, needs=needs), "best", 2)
        self.check(game_of(worths, aim="paid", needs=needs), "best", 0)

    def test_none(self):
        # Every agent may stay alone with 1, but together they have 1 at most.
        worths = [[[1, 0], [1, 0]], [[0, 1]]]
        for lots, payments in itertools.product((False, True), repeat=2):
            agents = [(name, [(word, weight, ONE, list(numbers)) for word, weight, _, numbers in kinds])
                      for name, kinds in game_of(worths).agents]
            game = Game(agents, ["one", "two"], lots=lots, payments=payments, needs=[("part",), ("budget",)])
            answer = self.check(game, "none")
            self.assertEqual(len(answer[2]), 4)

    def test_endless(self):
        worths = [[[0, 1], [0, 2]]]
        for lots in (False, True):
            self.check(game_of(worths, aim="paid", payments=True, lots=lots), "endless")
            self.check(game_of(worths, aim="worst", payments=True, lots=lots), "endless")
            self.check(game_of(worths, aim="total", payments=True, lots=lots), "best", 3)
            self.check(game_of(worths, aim="paid", payments=True, lots=lots, needs=[("bound", r(7))]), "best", 14)

    def test_certificates(self):
        # Without lots the certificate is a tree, with lots a plain certificate.
        for game in (example(), sized([2, 2], 2), sized([2], 3, needs=[("part",)])):
            _, _, tree = find(game)
            self.assertTrue(accepts_tree(program_of(game), whole_variables(game), tree))
        game = sized([2, 2], 3, lots=True)
        _, _, certificate = find(game)
        self.assertTrue(judged_certificate(program_of(game), certificate))

    def test_at_random(self):
        source = seeded(802)
        kinds = []
        for _ in range(300):
            game = some_game(source)
            answer = find(game)
            self.assertIs(accepts(game, answer), True)
            kinds.append((answer[0], game.lots))
            if answer[0] == "none":
                self.assertIsNone(answer[1])
            else:
                self.assertTrue(is_good(game, answer[1]))
        for kind in itertools.product(("best", "none", "endless"), (False, True)):
            self.assertGreater(kinds.count(kind), 3, kind)

    def test_no_good_rule_has_a_greater_value(self):
        # Mixtures of good rules are good, so none of them is above the best one with lots.
        source = seeded(803)
        compared = 0
        for _ in range(60):
            game = game_of([[[source.randint(-2, 3) for _ in range(3)] for _ in range(2)] for _ in range(2)],
                           aim=source.choice(("total", "worst")), lots=True)
            answer = find(game)
            rules = [rule for rule in plain_rules(game) if is_good(game, rule)]
            first, second = source.choice(rules), source.choice(rules)
            for rule in (first, second, mixture(game, first, second, (1, 3))):
                self.assertLessEqual(plain(value(game, rule)), plain(value(game, answer[1])))
                compared += 1
        self.assertEqual(compared, 180)


class Changed(unittest.TestCase):
    """Answers that were changed in one place."""

    def games(self):
        yield example()
        yield sized([2, 2], 2, aim="worst")
        yield sized([2, 2], 3, lots=True, needs=[("order", 0, [1])])
        yield game_of([[[0, 1], [0, 2]]], aim="paid", payments=True, lots=True)
        yield game_of([[[0, 1], [0, 2]]], aim="paid", payments=True)
        for lots in (False, True):
            agents = [("ann", [("a", ONE, r(2), rs(1, 0)), ("b", ONE, r(2), rs(0, 1))])]
            yield Game(agents, ["one", "two"], lots=lots, needs=[("part",)])

    def test_kinds(self):
        for game in self.games():
            kind, rule, certificate = find(game)
            for other in ("best", "none", "endless", "worst"):
                self.assertIs(accepts(game, (other, rule, certificate)), other == kind)
                self.assertIs(accepts(game, (kind, rule, (other, *certificate[1:]))), other == kind)
                if other != kind:
                    self.assertFalse(accepts(game, (other, rule, (other, *certificate[1:]))))

    def test_rules(self):
        for game in self.games():
            kind, rule, certificate = find(game)
            count = len(rule_at(game, certificate[1])) if rule is not None else 2
            other = constant(game, entry_of([0] * (len(game.outcomes) - 1) + [1], [0] * len(game.agents)))
            wrong = [[], [other[0]] * (count + 1), [([], [])] * count]
            if rule is not None:
                wrong += [None, rule[:-1], rule + rule[-1:]]
                wrong += [[*rule[:-1], (rule[-1][0], rule[-1][1] + [ZERO])]]
                wrong += [[*rule[:-1], (rule[-1][0], [r(1, 7)] + rule[-1][1][1:])]]
                wrong += [[*rule[:-1], (rule[-1][0][:-1], rule[-1][1])]]
            for item in wrong:
                self.assertFalse(accepts(game, (kind, item, certificate)), item)
            self.assertIs(accepts(game, (kind, other, certificate)), other == rule)
            self.assertTrue(accepts(game, (kind, copy.deepcopy(rule), certificate)))

    def test_another_good_rule_than_the_one_at_the_point(self):
        # Both rules are best, but only one of them stands at the point.
        game = game_of([[[1, 1]]], lots=True)
        kind, rule, certificate = find(game)
        other = [entry_of(["1/2", "1/2"], [0])]
        self.assertEqual(value(game, other), value(game, rule))
        self.assertNotEqual(other, rule)
        self.assertFalse(accepts(game, (kind, other, certificate)))
        self.assertTrue(accepts(game, (kind, other, (kind, rs("1/2", "1/2"), *certificate[2:]))))

    def test_items_of_the_certificate(self):
        # Whatever is changed: an accepted answer is as point 52 says.
        refused = 0
        for game in self.games():
            kind, rule, certificate = find(game)
            item = program_of(game)
            for part in (1, 2, 3):
                for at in range(len(certificate[part])):
                    lists = [certificate[part][:at] + certificate[part][at + 1:]]
                    if part != 3 or game.lots:
                        lists += [certificate[part][:at] + [more] + certificate[part][at + 1:] for more in
                                  (ZERO, ONE, r(-7, 3), r(plain(certificate[part][at]) + Fraction(1, 5)))]
                    for changed in lists:
                        broken = (*certificate[:part], changed, *certificate[part + 1:])
                        if game.lots:
                            judged = judged_certificate(item, broken)
                        else:
                            judged = accepts_tree(item, whole_variables(game), broken)
                        judged = judged and (rule is None or rule_at(game, broken[1]) == rule)
                        self.assertIs(accepts(game, (kind, rule, broken)), judged)
                        refused += not judged
        self.assertGreater(refused, 100)

    def test_nodes_of_a_tree(self):
        game = example()
        kind, rule, (_, x, ray, nodes) = find(game)
        leaf = (-1, -1, -1, ("none", [], [], []))
        for wrong in ([], [leaf], [(0, 1, 2, leaf[3])], [(0, 1, 2, leaf[3]), nodes[0]], [(2, 1, 1, leaf[3]), nodes[0]]):
            self.assertFalse(accepts(game, (kind, rule, (kind, x, ray, wrong))))
        self.assertTrue(accepts(game, (kind, rule, (kind, x, ray, nodes + [leaf]))))
        self.assertFalse(accepts(game, ("none", None, ("none", [], [], []))))

    def test_certificates_of_another_game(self):
        rich = game_of([[[0, 1], [0, 4]]], ["none", "all"], payments=True, aim="paid", needs=[("part",)])
        self.assertFalse(accepts(rich, find(example())))
        self.assertFalse(accepts(sized([2], 2, lots=True), find(sized([2, 2], 2, lots=True))))
        self.assertFalse(accepts(sized([2], 2), find(sized([2, 2], 2))))

    def test_an_answer_is_not_changed(self):
        for game in self.games():
            answer = find(game)
            before = copy.deepcopy(answer), state(game)
            accepts(game, answer)
            self.assertEqual((answer, state(game)), before)


class Limits(unittest.TestCase):
    def refuse(self, game):
        with self.assertRaises(TooLarge):
            find(game)

    def find(self, game):
        self.assertTrue(accepts(game, find(game)))

    def test_variables(self):
        game = sized([4, 3], 6, lots=True)
        self.assertEqual(program_of(game).variables, 72)
        self.find(game)
        beyond = sized([4, 3], 6, lots=True, aim="worst")
        self.assertEqual((program_of(beyond).variables, len(program_of(beyond).rows)), (73, 96))
        self.refuse(beyond)

    def test_whole_variables(self):
        for sizes, outcomes in (([4], 6), ([4, 2], 3)):
            game = sized(sizes, outcomes)
            self.assertEqual(len(whole_variables(game)), 24)
            self.find(game)
        beyond = sized([3, 3], 3)
        item = program_of(beyond)
        self.assertEqual((len(whole_variables(beyond)), item.variables, len(item.rows) + 2 * 27), (27, 27, 99))
        self.refuse(beyond)
        self.find(sized([3, 3], 3, lots=True))

    def test_rows(self):
        still = ("envy", 0, 1, [0, 1])
        needs = [("bound", ONE), ("part",), still] + [("order", 1, [0])] * 4
        game = sized([4, 3], 2, payments=True, lots=True, needs=needs)
        self.assertEqual(len(program_of(game).rows), 200)
        self.find(game)
        beyond = [("bound", ONE), ("part",), still, ("order", 0, [0])] + [("order", 1, [0])] * 3
        beyond = sized([4, 3], 2, payments=True, lots=True, needs=beyond)
        self.assertEqual(len(program_of(beyond).rows), 201)
        self.refuse(beyond)

    def test_rows_and_whole_variables(self):
        # Each of the 24 whole variables counts like two rows.
        game = sized([4, 3], 2, needs=[("bound", ONE)] + [("order", 1, [0])] * 4)
        self.assertEqual(len(program_of(game).rows) + 2 * len(whole_variables(game)), 200)
        self.find(game)
        beyond = sized([4, 3], 2, needs=[("bound", ONE), ("part",), ("order", 0, [0])])
        self.assertEqual(len(program_of(beyond).rows) + 2 * len(whole_variables(beyond)), 201)
        self.refuse(beyond)

    def test_games_whose_program_is_too_large(self):
        huge = sized([2, 2, 2, 2], 6, payments=True, aim="worst")
        self.refuse(huge)
        rule = constant(huge, entry_of([1, 0, 0, 0, 0, 0], [0] * 4))
        for kind in ("best", "endless"):
            self.assertIs(accepts(huge, (kind, rule, (kind, [ZERO] * 161, [], []))), False)
        self.assertIs(accepts(huge, ("none", None, ("none", [], [], []))), False)

    def test_answers_for_games_that_are_not_searched(self):
        # The check has no such limits: this certificate was made by hand.
        game = sized([2, 2, 2, 2], 6, lots=True, needs=[("bound", ONE)])
        self.refuse(game)
        item = program_of(game)
        self.assertEqual(item.variables, 96)
        rule = constant(game, entry_of([1, 0, 0, 0, 0, 0], [0] * 4))
        point = [number for lot, _ in rule for number in lot]
        self.assertFalse(accepts(game, ("best", rule, ("best", point, [ZERO] * len(item.rows), []))))
        idle = game_of([[[0] * 6, [0] * 6]] * 4, lots=True)
        factors = [ZERO] * len(program_of(idle).rows)
        self.assertTrue(accepts(idle, ("best", rule, ("best", point, factors, []))))


if __name__ == "__main__":
    unittest.main()

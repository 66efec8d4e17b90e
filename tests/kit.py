"""What several tests need: short ways to write fractions, programs and games, and a slow judge."""

import copy
import itertools
import math
import random
from fractions import Fraction

from unbent.games import Game
from unbent.net import Net
from unbent.programs import Program
from unbent.ratios import make

ZERO = (0, 1)
ONE = (1, 1)


def r(value, below=1):
    """The fraction of a number, as the program writes it."""
    number = Fraction(value) / below
    return number.numerator, number.denominator


def rs(*values):
    return [r(value) for value in values]


def plain(value):
    """The number of a fraction, as Python's own class writes it."""
    return Fraction(value[0], value[1])


def plains(values):
    return [plain(value) for value in values]


def program(goal, rows, free=()):
    """A program from plain numbers; free lists the indexes of the free variables."""
    return Program(
        len(goal),
        free=[at in free for at in range(len(goal))],
        goal=rs(*goal),
        rows=[(rs(*numbers), sign, r(bound)) for numbers, sign, bound in rows],
    )


def state(item):
    """A copy of all that an object of the program holds, to compare it with later on."""
    return copy.deepcopy(vars(item))


def some_ratio(source, most=4):
    return make(source.randint(-most, most), source.choice((1, 1, 2, 3)))


def some_program(source, most=5, signs=("at least", "at most", "exactly"), free=0.25):
    """A small random program; the source is a random.Random with a seed of its own."""
    variables = source.randint(0, most)
    rows = []
    for _ in range(source.randint(0, most)):
        numbers = [some_ratio(source) if source.random() < 0.7 else ZERO for _ in range(variables)]
        rows.append((numbers, source.choice(signs), some_ratio(source)))
    return Program(
        variables,
        free=[source.random() < free for _ in range(variables)],
        goal=[some_ratio(source) for _ in range(variables)],
        rows=rows,
    )


def judged_fit(item, point):
    """Whether a point fits a program, judged from the document with Python's own fractions."""
    if len(point) != item.variables:
        return False
    point = plains(point)
    if any(x < 0 and not free for x, free in zip(point, item.free)):
        return False
    for numbers, sign, bound in item.rows:
        amount = sum((a * x for a, x in zip(plains(numbers), point)), Fraction(0))
        if sign == "at least" and not amount >= plain(bound):
            return False
        if sign == "at most" and not amount <= plain(bound):
            return False
        if sign == "exactly" and not amount == plain(bound):
            return False
    return True


def _judged_factors(item, y, goal):
    if len(y) != len(item.rows):
        return False
    for factor, (_, sign, _) in zip(plains(y), item.rows):
        if (sign == "at least" and factor > 0) or (sign == "at most" and factor < 0):
            return False
    for column in range(item.variables):
        amount = sum((f * plain(row[0][column]) for f, row in zip(plains(y), item.rows)), Fraction(0))
        if amount < goal[column] or (item.free[column] and amount != goal[column]):
            return False
    return True


def judged_certificate(item, certificate):
    """Whether a certificate is accepted, judged from the document with Python's own fractions."""
    kind, x, y, ray = certificate
    goal = plains(item.goal)
    bound = sum((f * plain(row[2]) for f, row in zip(plains(y), item.rows)), Fraction(0))
    if kind == "best":
        amount = sum((a * b for a, b in zip(goal, plains(x))), Fraction(0))
        return judged_fit(item, x) and _judged_factors(item, y, goal) and bound == amount
    if kind == "none":
        return _judged_factors(item, y, [Fraction(0)] * item.variables) and bound < 0
    if kind != "endless" or not judged_fit(item, x) or len(ray) != item.variables:
        return False
    still = [(numbers, sign, ZERO) for numbers, sign, _ in item.rows]
    flat = Program(item.variables, free=item.free, goal=item.goal, rows=still)
    return judged_fit(flat, ray) and sum((a * b for a, b in zip(goal, plains(ray))), Fraction(0)) > 0


def kind_of(name, worths, weight=1, alone=0):
    return name, r(weight), r(alone), rs(*worths)


def game_of(worths, outcomes=None, **more):
    """A game from plain worths: for each agent a list of the worths of each of its kinds."""
    names = ["ann", "bob", "cid", "dan", "eve"]
    agents = []
    for name, kinds in zip(names, worths):
        agents.append((name, [kind_of("abcde"[at], numbers) for at, numbers in enumerate(kinds)]))
    if outcomes is None:
        outcomes = ["one", "two", "three", "four", "five", "six"][:len(worths[0][0])]
    return Game(agents, outcomes, **more)


def entry_of(lot, paid):
    return rs(*lot), rs(*paid)


def some_game(source, lots=None):
    """A small random game with all sorts of needs."""
    sizes = source.choice(([1], [2], [3], [4], [2, 2], [1, 3], [3, 2], [2, 2, 2], [1, 2, 1], [2, 1, 1, 2]))
    outcomes = source.randint(1, 3)
    worths = [[[source.randint(-2, 4) for _ in range(outcomes)] for _ in range(size)] for size in sizes]
    needs = [need for need in (("part",), ("budget",), ("even",), ("bound", r(source.randint(0, 3))))
             if source.random() < 0.3]
    if len(sizes) > 1 and source.random() < 0.5:
        first, second = sorted(source.sample(range(len(sizes)), 2))
        swap = list(range(outcomes))
        if outcomes > 1:
            swap[0], swap[-1] = swap[-1], swap[0]
        needs.append(("envy", first, second, swap))
    if source.random() < 0.5:
        chosen = sorted(source.sample(range(outcomes), source.randint(1, outcomes)))
        needs.append(("order", source.randrange(len(sizes)), chosen))
    source.shuffle(needs)
    return game_of(
        worths,
        aim=source.choice(("total", "worst", "paid")),
        payments=source.random() < 0.5,
        lots=source.random() < 0.5 if lots is None else lots,
        needs=needs,
    )


def some_rule(source, game, count):
    """A random rule for a game with so many profiles."""
    rule = []
    for _ in range(count):
        outcomes = len(game.outcomes)
        if game.lots:
            parts = [source.randint(0, 3) for _ in range(outcomes)]
            parts[0] += sum(parts) == 0
            lot = [make(part, sum(parts)) for part in parts]
        else:
            first = source.randrange(outcomes)
            lot = [ONE if at == first else ZERO for at in range(outcomes)]
        paid = [some_ratio(source) if game.payments else ZERO for _ in game.agents]
        rule.append((lot, paid))
    return rule


def seeded(seed):
    return random.Random(seed)


def sizes_of(game):
    """The number of kinds of each agent."""
    return [len(kinds) for _, kinds in game.agents]


def profile_count_of(game):
    return math.prod(sizes_of(game))


def some_game_and_rule(source, **more):
    game = some_game(source, **more)
    return game, some_rule(source, game, profile_count_of(game))


def profiles_in(box):
    """The profiles whose kinds are in the box, in order."""
    return list(itertools.product(*box))


def some_end(source, game):
    paid = [some_ratio(source) if game.payments else ZERO for _ in game.agents]
    return "end", source.randrange(len(game.outcomes)), paid


def some_tree(source, game, stop=0.3):
    """A random question tree; its nodes stand in any order in which each question comes first."""
    nodes = []
    due = [(None, [list(range(size)) for size in sizes_of(game)])]
    while due:
        above, box = due.pop(source.randrange(len(due)))
        if above is not None:
            question, side = above
            nodes[question][side] = len(nodes)
        agents = [agent for agent, kinds in enumerate(box) if len(kinds) > 1]
        if not agents or source.random() < stop:
            nodes.append(list(some_end(source, game)))
            continue
        agent = source.choice(agents)
        part = sorted(source.sample(box[agent], source.randint(1, len(box[agent]) - 1)))
        for side, kinds in ((3, part), (4, [kind for kind in box[agent] if kind not in part])):
            due.append(((len(nodes), side), box[:agent] + [kinds] + box[agent + 1:]))
        nodes.append(["ask", agent, part, None, None])
    return [tuple(node) for node in nodes]


def flat(tree):
    """The list of the nodes of a nested tree, ordered as in a grown tree."""
    nodes = []

    def add(node):
        at = len(nodes)
        nodes.append(node)
        if node[0] == "ask":
            yes = add(node[3])
            no = add(node[4])
            nodes[at] = node[:3] + (yes, no)
        return at

    add(tree)
    return nodes


# Values of every kind that are no letters, and mostly no contents either.
ODD_VALUES = (
    None, True, False, 0, -1, 7, "", "call", (), [], {}, b"call", 1.5, object(), [1], ("call",), (None,), {"call": 1},
    ("call", 1, 0, 0), ("call", 1, 0, 0, 0, 0), ["call", 1, 0, 0, 0], ("call", 1, 0, 0, None), ("call", 1, 0, [], 0),
    ("call", 1, 0, None, 0), ("call", 1, 0, True, 0), ("call", True, 0, 0, 0), ("call", 1, False, 0, 0),
    ("call", 1, 0, 0, False), ("call", 1, 0, 0, True), ("call", "1", 0, 0, 0), ("call", 1, "0", 0, 0),
    ("call", 1, 0, 0, "0"), ("Call", 1, 0, 0, 0), (None, 1, 0, 0, 0), (["call"], 1, 0, 0, 0), ("call", 1.0, 0, 0, 0),
    ("call", (1,), 0, 0, 0), ((("call", 1, 0, 0, 0),),), [("call", 1, 0, 0, 0)], ("call", 1, 0, (0, [1]), 0),
)


def nested(deep, inner=None):
    """Tuples that are nested so deep."""
    value = () if inner is None else (inner,)
    for _ in range(deep - 1):
        value = (value,)
    return value


def letter_of(notary, keys, member, kind, body, round_number=1):
    """A letter with its signature, made with the member's key."""
    return kind, round_number, member, body, notary.sign(member, keys[member], (kind, round_number, body))


def round_game():
    """A game for rounds: two agents with two kinds each, payments and lots."""
    return game_of([[[0, 4], [0, 8]], [[3, 0], [1, 0]]], payments=True, lots=True)


def round_rule():
    return [
        entry_of([1, 0], [0, 0]),
        ([r(1, 2), r(1, 2)], [ONE, ZERO]),
        ([r(1, 4), r(3, 4)], [r(2), r(-1)]),
        entry_of([0, 1], [3, -2]),
    ]


def state_of_notary(notary):
    """What can be seen of a notary by asking it for new numbers, on a copy."""
    twin = copy.deepcopy(notary)
    return state(notary), twin.number(("kit", "new"))


class Wicked:
    """What a member that is not honest may think of: letters that others could fall for."""

    def __init__(self, source, notary, game, due):
        self.source = source
        self.notary = notary
        self.game = game
        self.due = due
        self.secrets = {}
        # A steady one commits itself once, and may lie when it opens.
        self.steady = source.random() < 0.5

    def body(self, member, kind, letters):
        """A body for a letter of this kind, made from the letters that were sent so far."""
        if self.source.random() < 0.03:
            return self.source.choice((0, 1, -1, "x", (), ((0, 0), (0, 0)), (0, "", 0, ZERO), self.due))
        if kind == "call":
            return self.due
        if kind in ("list", "book"):
            return self.pairs(letters, "commit" if kind == "list" else "open")
        return self.commit(member) if kind == "commit" else self.opening(member, letters)

    def pairs(self, letters, kind):
        found = []
        for party in range(1, len(self.game.agents) + 1):
            own = [letter for letter in letters if letter[0] == kind and letter[2] == party]
            # Mostly the latest one, so that lists and books have a chance to be completed.
            letter = None if not own else own[-1] if self.source.random() < 0.5 else self.source.choice(own)
            found.append((0, 0) if letter is None else (letter[3], letter[4]))
        return tuple(found)

    def report(self, member):
        kinds = self.game.agents[member - 1][1] if member else [None]
        salt = self.source.choice(("s", "t"))
        return salt, self.source.randrange(len(kinds)), self.source.choice((ZERO, (1, 2), (2, 3)))

    def commit(self, member):
        # Mostly the first one again, so that opens have a chance to fit.
        known = self.secrets.setdefault(member, [])
        report = known[0] if known and (self.steady or self.source.random() < 0.7) else self.report(member)
        known.append(report)
        return self.notary.number(("report",) + report)

    def opening(self, member, letters):
        lists = [letter for letter in letters if letter[0] == "list"]
        if not lists:
            return 0, "s", 0, ZERO
        body = self.source.choice(lists)[3]
        known = self.secrets.get(member, [])
        report = self.source.choice(known) if known and self.source.random() < 0.8 else self.report(member)
        return (self.notary.number(("list", body)),) + report


def run_net(source, net, game, due, honest, steps, steady=None):
    """A random course of a net."""
    wicked = Wicked(source, net.notary, game, due)
    wicked.steady = wicked.steady if steady is None else steady
    forgers = [member for member, is_honest in enumerate(honest) if not is_honest]
    net.begin()
    for _ in range(steps):
        letters = net.letters()
        if forgers and source.random() < 0.4:
            member = source.choice(forgers)
            kind = source.choice(("call", "list", "book", "list", "book") if member == 0 else ("commit", "open"))
            if source.random() < 0.05:
                kind = source.choice(("call", "commit", "list", "open", "book"))
            net.forge(member, kind, wicked.body(member, kind, letters))
        elif letters:
            late = range(max(0, len(letters) - 4), len(letters))
            number = source.choice(late if source.random() < 0.6 else range(len(letters)))
            net.deliver(number, source.randrange(len(honest)))


def some_net(source, honest=None):
    """A random net with its game, rule, honest members and kinds."""
    game, rule = some_game_and_rule(source)
    while honest is not None and len(game.agents) + 1 != len(honest):
        game, rule = some_game_and_rule(source)
    if honest is None:
        honest = [source.random() < 0.5 for _ in range(len(game.agents) + 1)]
    reports = []
    for at, (_, kinds) in enumerate(game.agents):
        below = source.randint(1, 6)
        reports.append((source.randrange(len(kinds)), f"s{at}", r(source.randrange(below), below)))
    keys = [f"key {at}" for at in range(len(honest))]
    return Net(game, rule, keys, honest=honest, reports=reports), game, rule, honest, reports

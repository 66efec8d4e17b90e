"""The interface: its names, arguments and classes stand in the files under which it lists them."""

import ast
import importlib
import inspect
import pathlib
import unittest

PACKAGE = pathlib.Path(__file__).resolve().parent.parent / "unbent"

FUNCTIONS = {
    "ratios": ["is_ratio(value)", "make(p, q=1)", "add(a, b)", "subtract(a, b)", "multiply(a, b)", "negate(a)",
               "divide(a, b)", "compare(a, b)", "sign(a)", "floor_of(a)", "total(values)", "dot(first, second)",
               "least_index(values)", "greatest_index(values)", "read_ratio(text)", "show_ratio(a)"],
    "systems": ["solve(rows, bounds)", "rank(rows)", "is_solution(rows, bounds, values)",
                "is_contradiction(rows, bounds, factors)"],
    "programs": ["fits(program, point)", "value_of(program, point)", "with_rows(program, rows)"],
    "certificates": ["accepts_certificate(program, certificate)", "bound_of(program, factors)"],
    "simplex": ["solve_program(program)"],
    "whole": ["is_whole(whole, point)", "relaxed(program, whole)", "fixed(program, index, bit)",
              "solve_whole(program, whole)", "accepts_tree(program, whole, tree)"],
    "games": ["profiles(game)", "profile_number(game, profile)", "with_kind(profile, agent, kind)",
              "profile_weight(game, profile)", "is_entry(game, entry)", "is_rule(game, rule)", "same_game(game, other)"],
    "game_text": ["read_game(text)", "write_game(game)", "read_rule(game, text)", "write_rule(game, rule)"],
    "rules": ["has(game, rule, agent, kind, profile)", "gain(game, rule, agent, told, profile)", "first_lie(game, rule)",
              "best_lies(game, rule)", "meets(game, rule, need)", "unmet(game, rule)", "value(game, rule)",
              "mixture(game, first, second, w)", "constant(game, entry)"],
    "groups": ["first_joint_lie(game, rule)", "drawn(lot, ticket)", "audit(game, rule, record)"],
    "model": ["program_of(game)", "whole_variables(game)", "point_of(game, rule)", "rule_at(game, values)",
              "is_good(game, rule)"],
    "best": ["find(game)", "accepts(game, answer)"],
    "shrink": ["without_need(game, index)", "without_kind(game, agent, kind)", "without_outcome(game, outcome)",
               "shrink(game)"],
    "menus": ["gain_from(worths, lots, kind, other)", "is_honest(worths, lots, payments)",
              "highest_payments(worths, lots)", "cycle_gain(worths, lots, cycle)", "spread(worths, lots, first, second)"],
    "auctions": ["virtual_values(values, weights)", "ironed_values(values, weights)", "bidders_game(bidders)",
                 "auction(bidders)"],
    "pivots": ["pivot_rule(game)"],
    "matching": ["accept(proposers, receivers)", "blocking(proposers, receivers, matching)"],
    "trading": ["trade(wishes)", "objecting(wishes, assignment)"],
    "choosing": ["choose(order, wishes, things)", "random_choices(wishes, things)", "assignments(matrix)"],
    "sharing": ["median(peaks, phantoms)", "share(costs, group, agent)", "charge(costs, bids)"],
    "vines": ["is_tree(game, tree)", "boxes(game, tree)", "play(game, tree, profile)", "rule_of(game, tree)"],
    "obvious": ["first_doubt(game, tree)", "is_plain(rule)", "allowed(game, rule, box, agent, part)",
                "is_stuck(game, rule, box)", "grow(game, rule)"],
    "clocks": ["clock(values, bidders)"],
    "notary": ["is_content(value)", "is_signed(notary, letter)"],
    "desk": ["terms(game, rule)", "stands(notary, game, round_number, body)",
             "open_fits(notary, game, round_number, party, list_body, body)",
             "book_fits(notary, game, round_number, list_body, body)"],
    "verdicts": ["convicted(game, rule, notary, values)"],
    "house": ["answers_of(lines)"],
    "reports": ["rule_report(game, rule)", "difference_report(game, first, second)", "machines_report(machines)"],
}

# The arguments of each class, its methods and its properties.
CLASSES = {
    ("programs", "Program"): ("(variables, *, free, goal, rows)", [], []),
    ("games", "Game"): ("(agents, outcomes, *, aim='total', payments=False, lots=False, needs=())", [], []),
    ("thresholds", "Thresholds"): (
        "(low, high, *, cuts, shares)",
        ["piece(self, number)", "tolls(self)", "is_ascending(self)", "lie(self, payments)"], []),
    ("notary", "Notary"): (
        "(keys)",
        ["number(self, content)", "known(self, content)", "sign(self, member, key, content)",
         "is_valid(self, member, content, signature)", "is_key(self, member, key)"], ["members"]),
    ("desk", "Desk"): ("(game, rule, notary, key, round_number)", ["begin(self)", "take(self, letter)"], []),
    ("parties", "Party"): (
        "(game, rule, notary, key, round_number, *, member, kind, salt, ticket)",
        ["take(self, letter)", "receipts(self)"], ["result"]),
    ("net", "Net"): (
        "(game, rule, keys, *, honest, reports, round_number=1)",
        ["letters(self)", "begin(self)", "deliver(self, number, member)", "forge(self, member, kind, body)",
         "result_of(self, member)", "receipts_of(self, member)"], []),
    ("house", "House"): ("()", ["obey(self, line)", "lines(self)", "answers(self)", "names(self, kind)"], []),
    ("journal", "Journal"): (
        "(text='')",
        ["add(self, record)", "fail(self, count)", "open_again(self)", "text(self)", "records(self)"], ["is_on"]),
    ("machines", "Machines"): (
        "()",
        ["hand(self, machine, line)", "urge(self, machine)", "letters(self)", "deliver(self, number)",
         "fail(self, machine, count)", "start(self, machine)", "is_running(self, machine)", "list_of(self, machine)",
         "answers(self, machine)", "journal_text(self, machine)", "settle(self, *, most=1000)"], []),
}


def module_of(name):
    return importlib.import_module(f"unbent.{name}")


def defined_in(name):
    """The functions and classes that are defined in the file itself, the latter with their methods."""
    found = {}
    for node in ast.parse((PACKAGE / f"{name}.py").read_text()).body:
        if isinstance(node, ast.FunctionDef):
            found[node.name] = []
        elif isinstance(node, ast.ClassDef):
            found[node.name] = [part.name for part in node.body if isinstance(part, ast.FunctionDef)]
    return found


class Interface(unittest.TestCase):
    def test_functions(self):
        for name, texts in FUNCTIONS.items():
            module, defined = module_of(name), defined_in(name)
            for text in texts:
                word = text.split("(")[0]
                self.assertIn(word, defined, name)
                self.assertEqual(word + str(inspect.signature(getattr(module, word))), text)

    def test_classes(self):
        for (name, word), (arguments, methods, properties) in CLASSES.items():
            item, defined = getattr(module_of(name), word), defined_in(name)
            self.assertEqual(str(inspect.signature(item)), arguments)
            for text in methods:
                method = text.split("(")[0]
                self.assertIn(method, defined[word])
                self.assertEqual(method + str(inspect.signature(getattr(item, method))), text)
            for attribute in properties:
                self.assertIn(attribute, defined[word])
                self.assertIsInstance(vars(item)[attribute], property)

    def test_properties_cannot_be_set(self):
        from unbent.journal import Journal
        from unbent.notary import Notary
        for item, name in ((Notary(["a", "b"]), "members"), (Journal(), "is_on")):
            with self.assertRaises(AttributeError):
                setattr(item, name, 3)

    def test_each_module_is_there(self):
        names = set(FUNCTIONS) | {name for name, _ in CLASSES} | {"errors"}
        self.assertLessEqual(names, {path.stem for path in PACKAGE.glob("*.py")})
        for name in names:
            module_of(name)


if __name__ == "__main__":
    unittest.main()

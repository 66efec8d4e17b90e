"""The search for a best truthful rule of a game, and the check of what it answers."""

from unbent.certificates import accepts_certificate
from unbent.errors import TooLarge
from unbent.model import program_of, rule_at, whole_variables
from unbent.simplex import solve_program
from unbent.whole import accepts_tree, solve_whole


def find(game):
    """Return an accepted answer (kind, rule, certificate) for the game."""
    program = program_of(game)
    if game.lots:
        certificate = solve_program(program)
    else:
        certificate = solve_whole(program, whole_variables(game))
    kind = certificate[0]
    rule = None if kind == "none" else rule_at(game, certificate[1])
    return kind, rule, certificate


def _is_proven(game, program, certificate):
    if game.lots:
        return accepts_certificate(program, certificate)
    return accepts_tree(program, whole_variables(game), certificate)


def accepts(game, answer):
    """Return True if the answer is accepted for the game."""
    kind, rule, certificate = answer
    try:
        program = program_of(game)
    except TooLarge:
        return False
    if certificate[0] != kind or not _is_proven(game, program, certificate):
        return False
    if kind == "none":
        return rule is None
    return rule == rule_at(game, certificate[1])

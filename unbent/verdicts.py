"""Verdicts: signed letters that prove that a member was not honest."""

from unbent.desk import DESK, book_fits, open_fits, stands, terms
from unbent.notary import is_signed


class Case:
    """What letters are judged by: the game, the notary and the number of the terms."""

    def __init__(self, game, rule, notary):
        self.game = game
        self.notary = notary
        self.due = notary.known(terms(game, rule))


def _signed(notary, values):
    """Return the signed letters among the values, each once, in order."""
    found = {}
    for item in values:
        if is_signed(notary, item):
            found[item] = True
    return list(found)


def _letters_of(letters, sender, kinds):
    return [letter for letter in letters if letter[2] == sender and letter[0] in kinds]


def _has_standing_body(case, letter):
    return stands(case.notary, case.game, letter[1], letter[3])


def _is_false_open(case, opened, listed):
    """Return True if the open is one for the body of the list letter, which it does not fit."""
    body = opened[3]
    if not isinstance(body, tuple) or len(body) != 4:
        return False
    if body[0] != case.notary.known(("list", listed[3])):
        return False
    return not open_fits(case.notary, case.game, opened[1], opened[2], listed[3], body)


def _are_rival_opens(first, second):
    """Return True if the two bodies tell different things for one list."""
    for body in (first, second):
        if not isinstance(body, tuple) or len(body) != 4:
            return False
    return first != second and first[0] == second[0]


def _is_proof(case, reason, first, second):
    """Return True if the two letters, of the kinds that the reason asks for, are a proof."""
    if reason in ("lists", "commits"):
        return first[3] != second[3]
    if reason == "opens":
        return _are_rival_opens(first[3], second[3])
    # The two other reasons ask for a list letter and a letter that should fit it, in any order.
    if first[0] == second[0]:
        return False
    listed, other = (first, second) if first[0] == "list" else (second, first)
    if reason == "book":
        return not book_fits(case.notary, case.game, other[1], listed[3], other[3])
    return _is_false_open(case, other, listed)


def _first_proof(case, reason, letters):
    """Return the first pair of letters of one round that is a proof, or None."""
    for at, first in enumerate(letters):
        for second in letters[at + 1:]:
            if first[1] == second[1] and _is_proof(case, reason, first, second):
                return first, second
    return None


def _against_desk(case, letters):
    """Return the first reason against the desk, with its letters, or None."""
    for letter in _letters_of(letters, DESK, ("call",)):
        if letter[3] != case.due:
            return "call", (letter,)
    lists = _letters_of(letters, DESK, ("list",))
    for letter in lists:
        if not _has_standing_body(case, letter):
            return "list", (letter,)
    for reason, chosen in (("lists", lists), ("book", _letters_of(letters, DESK, ("list", "book")))):
        proof = _first_proof(case, reason, chosen)
        if proof is not None:
            return reason, proof
    return None


def _opens_and_lists(case, letters, party):
    """Return the opens of the party and the list letters whose bodies stand, in order."""
    found = []
    for letter in letters:
        if letter[2] == party and letter[0] == "open":
            found.append(letter)
        elif letter[2] == DESK and letter[0] == "list" and _has_standing_body(case, letter):
            found.append(letter)
    return found


def _against_party(case, letters, party):
    """Return the first reason against the party, with its letters, or None."""
    choices = (
        ("commits", _letters_of(letters, party, ("commit",))),
        ("open", _opens_and_lists(case, letters, party)),
        ("opens", _letters_of(letters, party, ("open",))),
    )
    for reason, chosen in choices:
        proof = _first_proof(case, reason, chosen)
        if proof is not None:
            return reason, proof
    return None


def convicted(game, rule, notary, values):
    """Return the verdicts (member, reason, letters) that the signed letters among the values prove."""
    case = Case(game, rule, notary)
    letters = _signed(notary, values)
    verdicts = []
    for member in range(len(game.agents) + 1):
        found = _against_desk(case, letters) if member == DESK else _against_party(case, letters, member)
        if found is not None:
            verdicts.append((member, found[0], found[1]))
    return verdicts

"""The desk, which gathers the commits and the opens of the parties and shows them to all."""

from unbent.errors import InvalidKeys, InvalidRound, WrongKey
from unbent.game_text import write_game, write_rule
from unbent.groups import is_ticket
from unbent.notary import is_content, is_signed, signed_letter
from unbent.ratios import is_int, is_ratio

DESK = 0


def terms(game, rule):
    """Return the content that says what is played."""
    return "terms", write_game(game), write_rule(game, rule)


def check_round(game, notary, round_number):
    """Raise an error if nobody can play the game in a round of this number."""
    if not is_int(round_number) or round_number < 1:
        raise InvalidRound()
    if notary.members != len(game.agents) + 1:
        raise InvalidKeys()


def is_report(game, party, kind, ticket):
    """Return True if the agent of the party has such a kind and the ticket is one, for any values."""
    if not is_int(kind) or not 0 <= kind < len(game.agents[party - 1][1]):
        return False
    return is_ratio(ticket) and is_ticket(ticket)


def _are_pairs(game, body):
    """Return True if the value is a tuple with a pair for each party."""
    if not isinstance(body, tuple) or len(body) != len(game.agents):
        return False
    return all(isinstance(pair, tuple) and len(pair) == 2 for pair in body)


def stands(notary, game, round_number, body):
    """Return True if the body stands as a list in the round, for any value."""
    if not _are_pairs(game, body):
        return False
    for at, (commit, signature) in enumerate(body):
        letter = ("commit", round_number, at + 1, commit, signature)
        if not is_int(commit) or not is_signed(notary, letter):
            return False
    return True


def open_fits(notary, game, round_number, party, list_body, body):
    """Return True if the body of the party's open fits the list body, for any value."""
    if not is_content(body) or not isinstance(body, tuple) or len(body) != 4:
        return False
    number, salt, kind, ticket = body
    if number != notary.known(("list", list_body)):
        return False
    if not is_report(game, party, kind, ticket):
        return False
    return notary.known(("report", salt, kind, ticket)) == list_body[party - 1][0]


def book_fits(notary, game, round_number, list_body, body):
    """Return True if the body of a book fits the list body, for any value."""
    if not _are_pairs(game, body):
        return False
    for at, (opened, signature) in enumerate(body):
        if not is_signed(notary, ("open", round_number, at + 1, opened, signature)):
            return False
        if not open_fits(notary, game, round_number, at + 1, list_body, opened):
            return False
    return True


class Desk:
    """The desk of one round."""

    def __init__(self, game, rule, notary, key, round_number):
        check_round(game, notary, round_number)
        if not notary.is_key(DESK, key):
            raise WrongKey(DESK)
        self._game = game
        self._terms = terms(game, rule)
        self._notary = notary
        self._key = key
        self._round = round_number
        self._commits = {}
        self._opens = {}

    def _letters(self, kind, body):
        return [signed_letter(self._notary, DESK, self._key, kind, self._round, body)]

    def _all_of(self, kept):
        """Return the pairs that are kept, in the order of the parties, or None if one is missing."""
        parties = list(range(1, self._notary.members))
        if not all(party in kept for party in parties):
            return None
        return tuple([kept[party] for party in parties])

    def begin(self):
        """Send the call."""
        return self._letters("call", self._notary.number(self._terms))

    def take(self, letter):
        """Take any value, and return the letters that the desk sends because of it."""
        if not is_signed(self._notary, letter):
            return []
        kind, round_number, sender, body, signature = letter
        if round_number != self._round or sender == DESK:
            return []
        if kind == "commit":
            return self._take_commit(sender, body, signature)
        if kind == "open":
            return self._take_open(sender, body, signature)
        return []

    def _take_commit(self, sender, body, signature):
        if not is_int(body):
            return []
        self._commits.setdefault(sender, (body, signature))
        list_body = self._all_of(self._commits)
        return [] if list_body is None else self._letters("list", list_body)

    def _take_open(self, sender, body, signature):
        list_body = self._all_of(self._commits)
        if list_body is None:
            return []
        if not open_fits(self._notary, self._game, self._round, sender, list_body, body):
            return []
        self._opens.setdefault(sender, (body, signature))
        book_body = self._all_of(self._opens)
        return [] if book_body is None else self._letters("book", book_body)

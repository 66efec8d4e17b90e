"""A party, which commits itself to its report before it learns anything of the others."""

from unbent.desk import DESK, book_fits, check_round, is_report, stands, terms
from unbent.errors import InvalidReport, WrongKey
from unbent.games import profile_number
from unbent.groups import drawn
from unbent.notary import is_signed, signed_letter
from unbent.ratios import floor_of, make, subtract, total


class Party:
    """The party of one agent in one round."""

    def __init__(self, game, rule, notary, key, round_number, *, member, kind, salt, ticket):
        check_round(game, notary, round_number)
        if member == DESK or not notary.is_key(member, key):
            raise WrongKey(member)
        if not is_report(game, member, kind, ticket):
            raise InvalidReport()
        self._game = game
        self._lots = [list(lot) for lot, _ in rule]
        self._terms = terms(game, rule)
        self._notary = notary
        self._key = key
        self._round = round_number
        self._member = member
        self._salt = salt
        self._kind = kind
        self._ticket = ticket
        self._list = None
        self._ended = None
        self._receipts = {}

    @property
    def result(self):
        """The result (profile, outcome), or None if the party has not ended."""
        return self._ended

    def receipts(self):
        """Return the letters of the desk that it took and those that it sent, each once."""
        return list(self._receipts)

    def take(self, letter):
        """Take any value, and return the letters that the party sends because of it."""
        if not is_signed(self._notary, letter):
            return []
        kind, round_number, sender, body, _ = letter
        if round_number != self._round or sender != DESK or kind not in ("call", "list", "book"):
            return []
        # A dict keeps the order in which letters come, and each of them once.
        self._receipts[letter] = True
        sent = self._answer(kind, body)
        for answer in sent:
            self._receipts[answer] = True
        return sent

    def _answer(self, kind, body):
        if kind == "call":
            return self._take_call(body)
        if kind == "list":
            return self._take_list(body)
        self._take_book(body)
        return []

    def _letters(self, kind, body):
        return [signed_letter(self._notary, self._member, self._key, kind, self._round, body)]

    def _report(self):
        return "report", self._salt, self._kind, self._ticket

    def _take_call(self, body):
        if body != self._notary.known(self._terms):
            return []
        return self._letters("commit", self._notary.number(self._report()))

    def _holds_own_commit(self, body):
        # The body stands, so this pair is signed; and a member has one signature for one content.
        return body[self._member - 1][0] == self._notary.known(self._report())

    def _take_list(self, body):
        if not stands(self._notary, self._game, self._round, body) or not self._holds_own_commit(body):
            return []
        if self._list is None:
            self._list = body
        if body != self._list:
            return []
        number = self._notary.number(("list", body))
        return self._letters("open", (number, self._salt, self._kind, self._ticket))

    def _take_book(self, body):
        if self._list is None or self._ended is not None:
            return
        if book_fits(self._notary, self._game, self._round, self._list, body):
            self._ended = self._result_of([opened for opened, _ in body])

    def _result_of(self, opens):
        """Return the result that the bodies of the opens of all parties give."""
        profile = tuple([opened[2] for opened in opens])
        tickets = total([opened[3] for opened in opens])
        ticket = subtract(tickets, make(floor_of(tickets)))
        return profile, drawn(self._lots[profile_number(self._game, profile)], ticket)

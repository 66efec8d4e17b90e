"""A net, which carries the letters of one round among members that may be dishonest."""

from unbent.desk import DESK, Desk
from unbent.errors import InvalidPlay, UnknownLetter
from unbent.notary import Notary, signed_letter
from unbent.parties import Party

_MOST_LETTERS = 400


class Net:
    """The members of one round, and the letters that they sent."""

    def __init__(self, game, rule, keys, *, honest, reports, round_number=1):
        if len(honest) != len(game.agents) + 1 or len(reports) != len(game.agents):
            raise InvalidPlay()
        self.notary = Notary(keys)
        self._keys = list(keys)
        self._round = round_number
        self._honest = list(honest)
        self._sent = []
        # The honest members by their numbers; who is not listed here never answers.
        self._players = {}
        if honest[DESK]:
            self._players[DESK] = Desk(game, rule, self.notary, keys[DESK], round_number)
        for at, (kind, salt, ticket) in enumerate(reports):
            member = at + 1
            if honest[member]:
                key = keys[member] if member < len(keys) else ""
                self._players[member] = Party(
                    game, rule, self.notary, key, round_number,
                    member=member, kind=kind, salt=salt, ticket=ticket)

    def _send(self, letters):
        """Add the letters to the list as long as it has room, and return their numbers."""
        numbers = []
        for letter in letters:
            if len(self._sent) < _MOST_LETTERS:
                numbers.append(len(self._sent))
                self._sent.append(letter)
        return numbers

    def _is_member(self, member):
        return 0 <= member < len(self._honest) and member < self.notary.members

    def letters(self):
        """Return the list of the letters that were sent."""
        return list(self._sent)

    def begin(self):
        """Let the desk begin, if it is honest, and return the numbers of the letters that it sent."""
        if DESK not in self._players:
            return []
        return self._send(self._players[DESK].begin())

    def deliver(self, number, member):
        """Deliver the letter to the member, and return the numbers of the letters that it sent."""
        if not 0 <= number < len(self._sent):
            raise UnknownLetter(number)
        if not self._is_member(member):
            raise InvalidPlay()
        if member not in self._players:
            return []
        return self._send(self._players[member].take(self._sent[number]))

    def forge(self, member, kind, body):
        """Let a member that is not honest send a letter, and return the numbers of what was added."""
        if not self._is_member(member) or self._honest[member]:
            raise InvalidPlay()
        # The notary refuses a body that is no content.
        key = self._keys[member]
        return self._send([signed_letter(self.notary, member, key, kind, self._round, body)])

    def _is_honest_party(self, member):
        return member != DESK and member in self._players

    def result_of(self, member):
        """Return the result of an honest party; None if it has none, or for anybody else."""
        return self._players[member].result if self._is_honest_party(member) else None

    def receipts_of(self, member):
        """Return the receipts of an honest party; no letters for anybody else."""
        return self._players[member].receipts() if self._is_honest_party(member) else []

"""Three machines that agree on one list of lines, although letters are lost and machines stop."""

from unbent.errors import MachineStopped, UnknownLetter, UnknownMachine
from unbent.house import answers_of, check_line
from unbent.journal import Journal

_COUNT = 3


class Attempt:
    """A try of one machine to have an item decided at a place.

    It is asking as long as nothing is offered. One other machine that answers is enough for both
    steps: together with the machine itself these are two of the three.
    """

    def __init__(self, place, ballot):
        self.place = place
        self.ballot = ballot
        self.offered = None


def _item_words(item):
    machine, boot, number, line = item
    return f"{machine} {boot} {number} {line}"


def _read_item(words):
    return int(words[0]), int(words[1]), int(words[2]), words[3]


class Machine:
    """One of the machines.

    Its methods return the letters that it sends, as pairs of the receiver and the message. When the
    power of the journal goes off, what they have sent until then is all.
    """

    def __init__(self, own):
        self.own = own
        self.journal = Journal()
        self.restart()

    def restart(self):
        """Open the journal, and restore what its records say; all else is lost."""
        self.journal.open_again()
        self.boot = 0
        self.promised = {}
        self.accepted = {}
        self.decided = {}
        self.noted = {}
        self.held = []
        self.handed = 0
        self.attempt = None
        for record in self.journal.records():
            self._restore(record)
        self.journal.add(f"boot {self.boot}")

    def _restore(self, record):
        word, _, rest = record.partition(" ")
        if word == "boot":
            self.boot += 1
        elif word == "promise":
            place, ballot = rest.split(" ")
            self.promised[int(place)] = int(ballot)
        elif word == "accept":
            words = rest.split(" ", 5)
            self._keep_accepted(int(words[0]), int(words[1]), _read_item(words[2:]))
        else:
            words = rest.split(" ", 4)
            self.decided[int(words[0])] = _read_item(words[1:])

    def _keep_accepted(self, place, ballot, item):
        self.promised[place] = ballot
        self.accepted[place] = (ballot, item)

    def is_running(self):
        """Return True if the power of the journal is on."""
        return self.journal.is_on

    def _has_written(self, record):
        """Write the record, and return True if the machine is still running behind it."""
        return self.journal.add(record) and self.is_running()

    def next_place(self):
        """Return the least place that is not known to be decided."""
        place = 0
        while place in self.decided:
            place += 1
        return place

    def known_lines(self):
        """Return the lines of the items at the places before the next place."""
        return [self.decided[place][3] for place in range(self.next_place())]

    def _to_others(self, message):
        return [(other, message) for other in range(_COUNT) if other != self.own]

    def hand(self, line):
        """Take a line from outside; return its item, and the letters."""
        item = (self.own, self.boot, self.handed, line)
        self.handed += 1
        self.held.append(item)
        return item, self.begin() if self.attempt is None else []

    def begin(self):
        """Give up the attempt, if there is one, and begin a new one."""
        place = self.next_place()
        least = max(self._promise_at(place), self.noted.get(place, -1)) + 1
        # The least own ballot that is not below.
        ballot = least + (self.own - least) % _COUNT
        if not self._has_written(f"promise {place} {ballot}"):
            return []
        self.promised[place] = ballot
        self.attempt = Attempt(place, ballot)
        return self._to_others(("ask", place, ballot))

    def _promise_at(self, place):
        """Return the highest ballot that is promised for the place, or -1."""
        return self.promised.get(place, -1)

    def take(self, sender, message):
        """Take a message from another machine."""
        word, place = message[0], message[1]
        if word == "decided":
            return self._learn(place, message[2], [])
        if word in ("ask", "offer") and place in self.decided:
            return [(sender, ("decided", place, self.decided[place]))]
        ballot = message[2]
        if word == "higher":
            return self._note(place, ballot)
        if word in ("ask", "offer"):
            if ballot < self._promise_at(place):
                return [(sender, ("higher", place, self._promise_at(place)))]
            if word == "ask":
                return self._answer_ask(sender, place, ballot)
            return self._answer_offer(sender, place, ballot, message[3])
        if self.attempt is None or (self.attempt.place, self.attempt.ballot) != (place, ballot):
            return []
        if word == "promise":
            return self._offer(message[3]) if self.attempt.offered is None else []
        return [] if self.attempt.offered is None else self._decide()

    def _end_attempt_below(self, place, ballot):
        """End an attempt for the place if it has a lower ballot."""
        if self.attempt is not None and self.attempt.place == place and self.attempt.ballot < ballot:
            self.attempt = None

    def _note(self, place, ballot):
        self.noted[place] = max(ballot, self.noted.get(place, -1))
        self._end_attempt_below(place, ballot)
        return []

    def _answer_ask(self, sender, place, ballot):
        if ballot > self._promise_at(place):
            if not self._has_written(f"promise {place} {ballot}"):
                return []
            self.promised[place] = ballot
            self._end_attempt_below(place, ballot)
        return [(sender, ("promise", place, ballot, self.accepted.get(place, None)))]

    def _has_accepted(self, place, ballot, item):
        """Accept the item, unless that was done before; return True if the machine is still running."""
        if self.accepted.get(place, None) == (ballot, item):
            return True
        if not self._has_written(f"accept {place} {ballot} {_item_words(item)}"):
            return False
        self._keep_accepted(place, ballot, item)
        self._end_attempt_below(place, ballot)
        return True

    def _answer_offer(self, sender, place, ballot, item):
        if not self._has_accepted(place, ballot, item):
            return []
        return [(sender, ("taken", place, ballot))]

    def _choice(self, other):
        """Return the item that has to be offered, or None; other is what the other one has accepted."""
        own = self.accepted.get(self.attempt.place, None)
        if own is not None and (other is None or own[0] > other[0]):
            return own[1]
        if other is not None:
            return other[1]
        return self.held[0] if self.held else None

    def _offer(self, other):
        """Offer an item, now that two machines have promised."""
        place, ballot = self.attempt.place, self.attempt.ballot
        item = self._choice(other)
        if item is None:
            self.attempt = None
            return []
        if not self._has_accepted(place, ballot, item):
            return []
        self.attempt.offered = item
        return self._to_others(("offer", place, ballot, item))

    def _decide(self):
        """Learn the offered item, now that two machines have accepted it."""
        place, item = self.attempt.place, self.attempt.offered
        return self._learn(place, item, self._to_others(("decided", place, item)))

    def _learn(self, place, item, sent):
        """Keep that the item is decided; what is sent then stands before a new attempt's letters."""
        if place in self.decided:
            return []
        if not self._has_written(f"decide {place} {_item_words(item)}"):
            return []
        self.decided[place] = item
        self.held = [other for other in self.held if other != item]
        if self.attempt is not None and self.attempt.place == place:
            self.attempt = None
        if self.attempt is None and self.held:
            return sent + self.begin()
        return sent


class Machines:
    """Three machines, and all letters that were ever sent between them."""

    def __init__(self):
        self._machines = [Machine(own) for own in range(_COUNT)]
        self._sent = []
        self._delivered = []

    def _machine(self, machine):
        if not 0 <= machine < _COUNT:
            raise UnknownMachine(machine)
        return self._machines[machine]

    def _running(self, machine):
        found = self._machine(machine)
        if not found.is_running():
            raise MachineStopped(machine)
        return found

    def _send(self, machine, pairs):
        for receiver, message in pairs:
            self._sent.append((machine, receiver, message))
            self._delivered.append(False)

    def hand(self, machine, line):
        """Hand the line to the machine, and return the item."""
        found = self._running(machine)
        check_line(line)
        item, sent = found.hand(line)
        self._send(machine, sent)
        return item

    def urge(self, machine):
        """Let the machine begin a new attempt."""
        self._send(machine, self._running(machine).begin())

    def letters(self):
        """Return the list of all letters that were ever sent."""
        return list(self._sent)

    def deliver(self, number):
        """Deliver the letter; return True if its receiver was running."""
        if not 0 <= number < len(self._sent):
            raise UnknownLetter(number)
        self._delivered[number] = True
        sender, receiver, message = self._sent[number]
        found = self._machines[receiver]
        if not found.is_running():
            return False
        self._send(receiver, found.take(sender, message))
        return True

    def fail(self, machine, count):
        """Let the power of the machine fail behind so many characters of its journal."""
        self._machine(machine).journal.fail(count)

    def start(self, machine):
        """Start the machine again, if it is not running."""
        found = self._machine(machine)
        if not found.is_running():
            found.restart()

    def is_running(self, machine):
        """Return True if the machine is running."""
        return self._machine(machine).is_running()

    def list_of(self, machine):
        """Return the list of the machine."""
        return self._running(machine).known_lines()

    def answers(self, machine):
        """Return the answers of a new house to the list of the machine."""
        return answers_of(self.list_of(machine))

    def journal_text(self, machine):
        """Return the text of the machine's journal."""
        return self._machine(machine).journal.text()

    def settle(self, *, most=1000):
        """Deliver each letter that was not delivered yet, in order; return how many these were."""
        count = 0
        number = 0
        while number < len(self._sent) and count < most:
            if not self._delivered[number]:
                self.deliver(number)
                count += 1
            number += 1
        return count

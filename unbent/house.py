"""A house: it keeps notes, games, rules and rounds, line by line."""

from unbent.best import find
from unbent.errors import InvalidLine, InvalidNumber, TextError, TooLarge
from unbent.game_text import read_game, read_rule
from unbent.games import is_name, kind_names, profile_number, profiles
from unbent.groups import audit, drawn, is_ticket
from unbent.ratios import read_ratio, show_ratio, show_ratios
from unbent.rules import first_lie, unmet, value

_MOST_CHARACTERS = 200
_MOST_NOTED = 60

# The number of words of each line; a note has this number or more.
_COUNTS = {
    "note": 3, "drop": 2, "game": 3, "rule": 4, "best": 3, "judge": 2, "open": 3, "tell": 4,
    "close": 3, "show": 2, "audit": 2,
}

# The lines whose second word is a name and not the name of something that the house keeps.
_NAMING = ("note", "drop", "game", "rule", "best", "open")

# The lines whose second word becomes the name of a game, a rule or a round.
_TAKING = ("game", "rule", "best", "open")


class Deal:
    """A rule that the house keeps, and its game."""

    def __init__(self, game, rule):
        self.game = game
        self.rule = rule


class Round:
    """A round of a rule: the kinds that the agents told, and the answer that closed it."""

    def __init__(self, rule_name, deal):
        self.rule_name = rule_name
        self.deal = deal
        self.told = [None] * len(deal.game.agents)
        self.closing = None


def check_line(line):
    """Raise InvalidLine if the string is no line that a house takes."""
    if len(line) > _MOST_CHARACTERS or not all(" " <= character <= "~" for character in line):
        raise InvalidLine()


def _refused(reason):
    return f"refused {reason}"


def _has_count(words):
    count = _COUNTS[words[0]]
    return len(words) >= count if words[0] == "note" else len(words) == count


def _text_of(lines):
    return "".join([line + "\n" for line in lines])


def _ticket_or_none(text):
    """Return the ticket that has this text, or None."""
    try:
        ticket = read_ratio(text)
    except InvalidNumber:
        return None
    return ticket if is_ticket(ticket) else None


def _index_or_none(names, name):
    return names.index(name) if name in names else None


def _names_of_kinds(game, agent):
    return [kind[0] for kind in game.agents[agent][1]]


def _judged(deal):
    """Return what is first wrong with the rule, or `straight`."""
    lie = first_lie(deal.game, deal.rule)
    if lie is not None:
        agent, kind, told, _, gain = lie
        names = _names_of_kinds(deal.game, agent)
        return f"lie {deal.game.agents[agent][0]} {names[kind]} {names[told]} {show_ratio(gain)}"
    need = unmet(deal.game, deal.rule)
    return "straight" if need is None else f"unmet {need}"


def _closing(deal, profile, ticket):
    """Return the answer that tells the outcome, and the payments if there are any."""
    lot, paid = deal.rule[profile_number(deal.game, profile)]
    words = ["outcome", deal.game.outcomes[drawn(lot, ticket)]]
    if deal.game.payments:
        words = words + ["pays"] + show_ratios(paid)
    return " ".join(words)


def _told(held, agent_name, kind_name):
    """Keep the kind that an agent tells in the round, and return the answer."""
    game = held.deal.game
    agent = _index_or_none([name for name, _ in game.agents], agent_name)
    if agent is None or kind_name not in _names_of_kinds(game, agent):
        return _refused("unknown")
    if held.closing is not None:
        return _refused("closed")
    if held.told[agent] is not None:
        return _refused("twice")
    held.told[agent] = _names_of_kinds(game, agent).index(kind_name)
    count = len([kind for kind in held.told if kind is not None])
    return f"told {count}"


def _closed(held, text):
    """Close the round with the ticket of this text, and return the answer."""
    if held.closing is not None:
        return _refused("closed")
    if None in held.told:
        return _refused("open")
    ticket = _ticket_or_none(text)
    if ticket is None:
        return _refused("number")
    held.closing = _closing(held.deal, tuple(held.told), ticket)
    return held.closing


def _shown(held):
    """Return the kinds that were told in the round, and the answer that closed it."""
    if held.closing is None:
        return _refused("open")
    return " ".join(["kinds"] + kind_names(held.deal.game, held.told) + [held.closing])


class House:
    """Notes, games, rules and rounds under their names, and the lines that made them."""

    def __init__(self):
        self._obeyed = []
        self._given = []
        self._notes = {}
        self._games = {}
        self._deals = {}
        self._rounds = {}

    def obey(self, line):
        """Obey the line, and return the answer."""
        check_line(line)
        answer = self._answer(line)
        self._obeyed.append(line)
        self._given.append(answer)
        return answer

    def lines(self):
        """Return the list of the lines that were obeyed."""
        return list(self._obeyed)

    def answers(self):
        """Return the list of the answers to these lines."""
        return list(self._given)

    def names(self, kind):
        """Return the ascending list of the names of all notes, games, rules or rounds."""
        shelves = {"notes": self._notes, "games": self._games, "rules": self._deals, "rounds": self._rounds}
        if kind not in shelves:
            raise InvalidLine()
        return sorted(shelves[kind])

    def _answer(self, line):
        words = line.split(" ")
        if "" in words or words[0] not in _COUNTS:
            return _refused("word")
        if not _has_count(words):
            return _refused("count")
        if words[0] in _NAMING and not is_name(words[1]):
            return _refused("name")
        if words[0] in _TAKING and self._is_taken(words[1]):
            return _refused("taken")
        return self._done(words)

    def _is_taken(self, name):
        return name in self._games or name in self._deals or name in self._rounds

    def _done(self, words):
        """Return the answer to a line whose first reasons do not apply."""
        word = words[0]
        if word in ("note", "drop"):
            return self._note(words[1], words[2:]) if word == "note" else self._drop(words[1])
        if word in ("game", "rule", "best"):
            return self._made(words)
        if word in ("judge", "open", "audit"):
            return self._about_rule(words)
        return self._about_round(words)

    def _about_rule(self, words):
        """Obey a line about a rule, whose name is the last word."""
        name = words[-1]
        if name not in self._deals:
            return _refused("unknown")
        deal = self._deals[name]
        if words[0] == "judge":
            return _judged(deal)
        if words[0] == "audit":
            return self._audited(name, deal)
        if _judged(deal) != "straight":
            return _refused("bent")
        self._rounds[words[1]] = Round(name, deal)
        return "open"

    def _about_round(self, words):
        """Obey a line about a round, whose name is the second word."""
        if words[1] not in self._rounds:
            return _refused("unknown")
        held = self._rounds[words[1]]
        if words[0] == "tell":
            return _told(held, words[2], words[3])
        if words[0] == "close":
            return _closed(held, words[2])
        return _shown(held)

    def _note(self, name, words):
        noted = self._notes.get(name, [])
        if len(noted) >= _MOST_NOTED:
            return _refused("full")
        self._notes[name] = noted + [" ".join(words)]
        return f"noted {len(noted) + 1}"

    def _drop(self, name):
        if name not in self._notes:
            return _refused("unknown")
        del self._notes[name]
        return "dropped"

    def _made(self, words):
        """Obey a line that makes a game or a rule."""
        if words[0] != "game" and words[2] not in self._games:
            return _refused("unknown")
        if words[0] != "best" and words[-1] not in self._notes:
            return _refused("unknown")
        try:
            if words[0] == "game":
                return self._read_game(words[1], _text_of(self._notes[words[2]]))
            if words[0] == "rule":
                return self._read_rule(words[1], self._games[words[2]], _text_of(self._notes[words[3]]))
            return self._find(words[1], self._games[words[2]])
        except TextError as error:
            return _refused(f"text {error.line} {error.reason}")
        except TooLarge:
            return _refused("large")

    def _read_game(self, name, text):
        game = read_game(text)
        self._games[name] = game
        return f"game {len(game.agents)} {len(game.outcomes)} {len(profiles(game))}"

    def _read_rule(self, name, game, text):
        rule = read_rule(game, text)
        self._deals[name] = Deal(game, rule)
        return f"rule {len(rule)}"

    def _find(self, name, game):
        kind, rule, _ = find(game)
        if kind != "best":
            return kind
        text = show_ratio(value(game, rule))
        self._deals[name] = Deal(game, rule)
        return f"best {text}"

    def _audited(self, name, deal):
        record = []
        for held in self._rounds.values():
            if held.rule_name == name and held.closing is not None:
                record.append((tuple(held.told), 1))
        gains = audit(deal.game, deal.rule, record)
        return f"audit {len(record)} {len(gains)}"


def answers_of(lines):
    """Return the list of the answers of a new house to these lines."""
    house = House()
    return [house.obey(line) for line in lines]

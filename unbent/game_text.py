"""The texts of games and of rules: reading and writing them line by line."""

from unbent.errors import InvalidNumber, TextError, TooLarge
from unbent.games import (
    AIMS, MOST_AGENTS, MOST_KINDS, MOST_NEEDS, MOST_OUTCOMES, MOST_PROFILES, Game, is_entry,
    is_excluded, is_name, is_need, kind_names, profile_count, profiles,
)
from unbent.ratios import read_ratio, show_ratio, show_ratios, sign

_MOST_CHARACTERS = 20000
_HEADS = ("game", "outs")
_NEEDS = ("part", "budget", "even", "bound", "envy", "order")
_WORDS = ("game", "outs", "agent", "kind", "part", "budget", "even", "bound", "envy", "order")


def _lines_of(text):
    """Return the lines of the text, each as the list of its words."""
    if len(text) > _MOST_CHARACTERS:
        raise TooLarge("text")
    lines = text.split("\n")
    # What stands behind the last newline is a line only if it is not empty.
    if lines[-1] == "":
        lines.pop()
    return [line.split(" ") for line in lines]


class Draft:
    """What the lines of a game have told so far."""

    def __init__(self):
        self.taken = 0
        self.head = []
        self.outcomes = []
        self.agents = []
        self.needs = []

    def counts(self):
        """Return the number of kinds of each agent."""
        return [len(kinds) for _, kinds in self.agents]

    def is_waiting(self):
        """Return True if no agent has come, or the last one has no kind."""
        return len(self.agents) == 0 or len(self.agents[-1][1]) == 0


def _is_number(word, least):
    """Return True if the word is the text of a fraction, which is at least 0 if that is asked."""
    try:
        number = read_ratio(word)
    except InvalidNumber:
        return False
    return not least or sign(number) >= 0


def _has_place(draft, word):
    if draft.taken < 2:
        return word == _HEADS[draft.taken]
    if word in _HEADS:
        return False
    if word == "kind":
        return len(draft.agents) > 0 and len(draft.needs) == 0
    return word != "agent" or len(draft.needs) == 0


def _has_room(draft, words):
    """Return True if the line stands behind the kinds that it needs and is within the limits."""
    word = words[0]
    if word == "outs":
        return len(words) - 1 <= MOST_OUTCOMES
    if word == "agent":
        return len(draft.agents) < MOST_AGENTS and (len(draft.agents) == 0 or not draft.is_waiting())
    if word == "kind":
        counts = draft.counts()
        counts[-1] += 1
        return counts[-1] <= MOST_KINDS and profile_count(counts) <= MOST_PROFILES
    if word in _NEEDS:
        return len(draft.needs) < MOST_NEEDS and not draft.is_waiting()
    return True


def _is_head(words):
    """Return True if the words are `pay`, `lots` and an aim; the first two may be missing."""
    rest = list(words)
    for word in ("pay", "lots"):
        if rest and rest[0] == word:
            rest = rest[1:]
    return len(rest) == 1 and rest[0] in AIMS


def _has_words(draft, words):
    """Return True if the line has as many words as its first word asks for."""
    word = words[0]
    outcomes = len(draft.outcomes)
    if word == "game":
        return _is_head(words[1:])
    if word == "outs":
        return len(words) >= 2
    if word == "order":
        return len(words) >= 3
    if word in ("agent", "bound"):
        return len(words) == 2
    if word == "kind":
        return len(words) == 4 + outcomes
    if word == "envy":
        return len(words) == 3 + outcomes
    return len(words) == 1


def _fault_of_declared(word, declared):
    if not is_name(word):
        return "name"
    return "twice" if word in declared else None


def _fault_of_used(words, declared):
    return None if all(word in declared for word in words) else "unknown"


def _agent_names(draft):
    return [name for name, _ in draft.agents]


def _fault_of_outs(words):
    for at, word in enumerate(words):
        fault = _fault_of_declared(word, words[:at])
        if fault is not None:
            return fault
    return None


def _fault_of_kind(draft, words):
    fault = _fault_of_declared(words[0], [kind[0] for kind in draft.agents[-1][1]])
    if fault is not None:
        return fault
    if not _is_number(words[1], True):
        return "number"
    return None if all(_is_number(word, False) for word in words[2:]) else "number"


def _fault_of_words(draft, words):
    """Return what is wrong with the words behind the first one, or None."""
    word = words[0]
    rest = words[1:]
    if word == "outs":
        return _fault_of_outs(rest)
    if word == "agent":
        return _fault_of_declared(rest[0], _agent_names(draft))
    if word == "kind":
        return _fault_of_kind(draft, rest)
    if word == "bound":
        return None if _is_number(rest[0], True) else "number"
    if word in ("envy", "order"):
        many = 2 if word == "envy" else 1
        fault = _fault_of_used(rest[:many], _agent_names(draft))
        return _fault_of_used(rest[many:], draft.outcomes) if fault is None else fault
    return None


def _need_of(draft, words):
    """Return the need of a line whose words are correct."""
    word = words[0]
    if word == "bound":
        return word, read_ratio(words[1])
    if word not in ("envy", "order"):
        return (word,)
    many = 3 if word == "envy" else 2
    names = _agent_names(draft)
    agents = [names.index(name) for name in words[1:many]]
    outcomes = [draft.outcomes.index(name) for name in words[many:]]
    return (word, *agents, outcomes)


def _fault_of_need(draft, need):
    if not is_need(len(draft.agents), len(draft.outcomes), need) or is_excluded(draft.needs, need):
        return "need"
    return None


def _fault_of_line(draft, words):
    """Return the reason why the line is incorrect, or None."""
    if "" in words or words[0] not in _WORDS:
        return "word"
    if not _has_place(draft, words[0]):
        return "place"
    if not _has_room(draft, words):
        return "count"
    if not _has_words(draft, words):
        return "words"
    fault = _fault_of_words(draft, words)
    if fault is None and words[0] in _NEEDS:
        return _fault_of_need(draft, _need_of(draft, words))
    return fault


def _take_line(draft, words):
    """Add what a correct line tells."""
    word = words[0]
    draft.taken += 1
    if word == "game":
        draft.head = words[1:]
    elif word == "outs":
        draft.outcomes = words[1:]
    elif word == "agent":
        draft.agents.append((words[1], []))
    elif word == "kind":
        numbers = [read_ratio(number) for number in words[2:]]
        draft.agents[-1][1].append((words[1], numbers[0], numbers[1], numbers[2:]))
    else:
        draft.needs.append(_need_of(draft, words))


def read_game(text):
    """Return the game that the text describes."""
    draft = Draft()
    for words in _lines_of(text):
        fault = _fault_of_line(draft, words)
        if fault is not None:
            raise TextError(draft.taken + 1, fault)
        _take_line(draft, words)
    if draft.is_waiting():
        raise TextError(draft.taken + 1, "end")
    return Game(draft.agents, draft.outcomes, aim=draft.head[-1], payments="pay" in draft.head,
                lots="lots" in draft.head, needs=draft.needs)


def _need_words(game, need):
    """Return the words of the line of a need."""
    word = need[0]
    if word == "bound":
        return [word, show_ratio(need[1])]
    if word not in ("envy", "order"):
        return [word]
    agents = [game.agents[agent][0] for agent in need[1:-1]]
    return [word] + agents + [game.outcomes[outcome] for outcome in need[-1]]


def _text_of(lines):
    return "".join([" ".join(words) + "\n" for words in lines])


def write_game(game):
    """Return the text of the game, each line with a newline at its end."""
    head = ["game"]
    if game.payments:
        head.append("pay")
    if game.lots:
        head.append("lots")
    lines = [head + [game.aim], ["outs"] + game.outcomes]
    for name, kinds in game.agents:
        lines.append(["agent", name])
        for kind, weight, alone, worths in kinds:
            lines.append(["kind", kind] + show_ratios([weight, alone] + worths))
    for need in game.needs:
        lines.append(_need_words(game, need))
    return _text_of(lines)


def _entry_size(game):
    """Return how many words a line of a rule has."""
    agents = len(game.agents)
    return 1 + agents + len(game.outcomes) + (agents if game.payments else 0)


def _fault_of_kinds(game, profile, words):
    for (_, kinds), due, word in zip(game.agents, profile, words):
        names = [kind[0] for kind in kinds]
        if word not in names:
            return "unknown"
        if word != names[due]:
            return "order"
    return None


def _fault_of_place(place, count, words):
    """Return the reason why a line of a rule with so many entries cannot stand at the place."""
    if "" in words or words[0] not in ("rule", "at"):
        return "word"
    if (words[0] == "rule") != (place == 0):
        return "place"
    return "count" if place > count else None


def _read_entry(game, profile, words, line):
    """Return the entry of the line for the profile."""
    agents = len(game.agents)
    fault = _fault_of_kinds(game, profile, words[1:])
    if fault is not None:
        raise TextError(line, fault)
    numbers = words[1 + agents:]
    if not all(_is_number(word, False) for word in numbers):
        raise TextError(line, "number")
    amounts = [read_ratio(word) for word in numbers]
    outcomes = len(game.outcomes)
    entry = (amounts[:outcomes], amounts[outcomes:] if game.payments else [(0, 1)] * agents)
    if not is_entry(game, entry):
        raise TextError(line, "entry")
    return entry


def read_rule(game, text):
    """Return the rule for the game that the text describes."""
    due = profiles(game)
    lines = _lines_of(text)
    rule = []
    for place, words in enumerate(lines):
        fault = _fault_of_place(place, len(due), words)
        size = 1 if place == 0 else _entry_size(game)
        if fault is None and len(words) != size:
            fault = "words"
        if fault is not None:
            raise TextError(place + 1, fault)
        if place > 0:
            rule.append(_read_entry(game, due[place - 1], words, place + 1))
    if len(lines) != 1 + len(due):
        raise TextError(len(lines) + 1, "end")
    return rule


def _entry_words(game, profile, entry):
    """Return the words of the line of an entry."""
    lot, paid = entry
    return ["at"] + kind_names(game, profile) + show_ratios(lot) + (show_ratios(paid) if game.payments else [])


def write_rule(game, rule):
    """Return the text of the rule for the game, each line with a newline at its end."""
    lines = [["rule"]]
    for profile, entry in zip(profiles(game), rule):
        lines.append(_entry_words(game, profile, entry))
    return _text_of(lines)

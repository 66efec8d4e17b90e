"""Wish lists, and matchings of proposers and receivers."""

from unbent.errors import InvalidWishes, TooLarge

MOST_MEMBERS = 8


def check_size(sizes, most):
    """Refuse sizes of which one is above the most that there may be."""
    if any(size > most for size in sizes):
        raise TooLarge("size")


def are_different(numbers, many):
    """Return True if the numbers are different from each other, from 0 to many - 1."""
    return all(0 <= number < many for number in numbers) and len(set(numbers)) == len(numbers)


def check_wishes(wishes, things):
    """Refuse lists of which one is no wish list over so many things."""
    if not all(are_different(line, things) for line in wishes):
        raise InvalidWishes("list")


def prefers(wishes, thing, other):
    """Return True if the thing is preferred to the other one, or to nothing if the other one is None."""
    if thing not in wishes:
        return False
    return other not in wishes or wishes.index(thing) < wishes.index(other)


def _check_sides(proposers, receivers):
    check_size([len(proposers), len(receivers)], MOST_MEMBERS)
    check_wishes(proposers, len(receivers))
    check_wishes(receivers, len(proposers))


def _turned(pairs, many):
    """Return the partner of each of so many, where the list gives the partners of the other side."""
    found = [None] * many
    for at, partner in enumerate(pairs):
        if partner is not None:
            found[partner] = at
    return found


def accept(proposers, receivers):
    """Return the matching of deferred acceptance: the receiver of each proposer, or None."""
    _check_sides(proposers, receivers)
    due = [list(wishes) for wishes in proposers]
    kept = [None] * len(receivers)
    single = list(range(len(proposers)))
    while single:
        proposer = single.pop()
        if due[proposer]:
            receiver = due[proposer].pop(0)
            rejected = proposer
            if prefers(receivers[receiver], proposer, kept[receiver]):
                rejected = kept[receiver]
                kept[receiver] = proposer
            if rejected is not None:
                single.append(rejected)
    return _turned(kept, len(proposers))


def _check_matching(proposers, receivers, matching):
    matched = [receiver for receiver in matching if receiver is not None]
    if len(matching) != len(proposers) or not are_different(matched, len(receivers)):
        raise InvalidWishes("list")


def _is_willing(proposers, receivers, proposer, receiver):
    return receiver in proposers[proposer] and proposer in receivers[receiver]


def blocking(proposers, receivers, matching):
    """Return None if the matching is stable, otherwise where it first fails, (proposer, receiver or None)."""
    _check_sides(proposers, receivers)
    _check_matching(proposers, receivers, matching)
    partners = _turned(matching, len(receivers))
    for proposer, own in enumerate(matching):
        if own is not None and not _is_willing(proposers, receivers, proposer, own):
            return proposer, None
        for receiver, wishes in enumerate(receivers):
            if prefers(proposers[proposer], receiver, own) and prefers(wishes, proposer, partners[receiver]):
                return proposer, receiver
    return None

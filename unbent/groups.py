"""Groups that lie together, tickets that draw outcomes, and audits of records."""

from unbent.errors import InvalidCount, InvalidLot, InvalidTicket
from unbent.games import profile_number, profiles, tuples_of, with_kind
from unbent.ratios import add, compare, greatest_index, make, multiply, sign, total
from unbent.rules import gain, has


def _groups(agents):
    """Return the groups of two or more agents, by the number whose binary digits are the members."""
    groups = []
    for number in range(1 << agents):
        members = [agent for agent in range(agents) if (number >> agent) & 1 == 1]
        if len(members) >= 2:
            groups.append(members)
    return groups


def _told_kinds(game, members):
    """Return the tuples of a kind for each member, ascending."""
    return tuples_of([list(range(len(game.agents[agent][1]))) for agent in members])


def _with_kinds(profile, members, told):
    changed = profile
    for agent, kind in zip(members, told):
        changed = with_kind(changed, agent, kind)
    return changed


def _is_better_for_each(game, rule, members, profile, changed):
    for agent in members:
        kind = profile[agent]
        before = has(game, rule, agent, kind, profile)
        if compare(has(game, rule, agent, kind, changed), before) <= 0:
            return False
    return True


def first_joint_lie(game, rule):
    """Return the first joint lie that is better for each as (members, profile, told), or None."""
    for members in _groups(len(game.agents)):
        for profile in profiles(game):
            for told in _told_kinds(game, members):
                # Where all tell their own kinds nobody has more, so this is never a joint lie.
                changed = _with_kinds(profile, members, told)
                if _is_better_for_each(game, rule, members, profile, changed):
                    return tuple(members), profile, told
    return None


def is_ticket(number):
    """Return True if the fraction is a ticket: at least 0 and less than 1."""
    return sign(number) >= 0 and compare(number, (1, 1)) < 0


def drawn(lot, ticket):
    """Return the index of the outcome that the ticket draws."""
    if any(sign(chance) < 0 for chance in lot) or total(lot) != (1, 1):
        raise InvalidLot()
    if not is_ticket(ticket):
        raise InvalidTicket()
    outcome = 0
    reached = lot[0]
    while compare(reached, ticket) <= 0:
        outcome += 1
        reached = add(reached, lot[outcome])
    return outcome


def _total_gain(game, rule, record, agent, kind, told):
    """Return how much the lie would have gained over the whole record."""
    found = (0, 1)
    for profile, count in record:
        if profile[agent] == kind:
            found = add(found, multiply(make(count), gain(game, rule, agent, told, profile)))
    return found


def _best_told(game, rule, record, agent, kind):
    """Return (agent, kind, told, total) for the kind told with the greatest total, or None."""
    others = [told for told in range(len(game.agents[agent][1])) if told != kind]
    totals = [_total_gain(game, rule, record, agent, kind, told) for told in others]
    at = greatest_index(totals)
    if at is None or sign(totals[at]) <= 0:
        return None
    return agent, kind, others[at], totals[at]


def audit(game, rule, record):
    """Return for each agent and kind that would have gained by a lie the best one and its total."""
    for profile, _ in record:
        profile_number(game, profile)
    if any(count < 0 for _, count in record):
        raise InvalidCount()
    found = []
    for agent, (_, kinds) in enumerate(game.agents):
        for kind in range(len(kinds)):
            best = _best_told(game, rule, record, agent, kind)
            if best is not None:
                found.append(best)
    return found

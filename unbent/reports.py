"""Reports: what a rule gives, how two rules differ, and how far three machines are."""

from unbent.games import kind_names, profiles
from unbent.ratios import show_ratio, show_ratios, subtract
from unbent.rules import best_lies, has, meets, value


def _had(game, rule, profile):
    """Return what each agent, of its kind in the profile, has there."""
    return [has(game, rule, agent, kind, profile) for agent, kind in enumerate(profile)]


def _entry_line(game, rule, profile, entry):
    lot, paid = entry
    words = ["at"] + kind_names(game, profile) + ["lot"] + show_ratios(lot)
    if game.payments:
        words = words + ["pays"] + show_ratios(paid)
    return " ".join(words + ["has"] + show_ratios(_had(game, rule, profile)))


def _lie_line(game, lie):
    agent, kind, told, profile, gain = lie
    name, kinds = game.agents[agent]
    words = ["lie", name, kinds[kind][0], kinds[told][0], "at"] + kind_names(game, profile)
    return " ".join(words + ["gains", show_ratio(gain)])


def rule_report(game, rule):
    """Return the lines of the report of the rule."""
    lines = [f"value {show_ratio(value(game, rule))}"]
    for profile, entry in zip(profiles(game), rule):
        lines.append(_entry_line(game, rule, profile, entry))
    faults = [_lie_line(game, lie) for lie in best_lies(game, rule) if lie is not None]
    for at, need in enumerate(game.needs):
        if not meets(game, rule, need):
            faults.append(f"unmet {at}")
    return lines + (faults if faults else ["straight"])


def _difference_line(game, first, second, profile):
    before = _had(game, first, profile)
    after = _had(game, second, profile)
    amounts = [subtract(b, a) for a, b in zip(before, after)]
    return " ".join(["at"] + kind_names(game, profile) + show_ratios(amounts))


def difference_report(game, first, second):
    """Return the lines of the report of two rules for one game."""
    lines = []
    for profile, entry, other in zip(profiles(game), first, second):
        if entry != other:
            lines.append(_difference_line(game, first, second, profile))
    difference = subtract(value(game, second), value(game, first))
    return lines + [f"value {show_ratio(difference)}"]


def _is_beginning(lines, others):
    return others[:len(lines)] == lines


def machines_report(machines):
    """Return the lines of the report of three machines."""
    every = [0, 1, 2]
    lists = [machines.list_of(machine) for machine in every if machines.is_running(machine)]
    report = []
    for machine in every:
        if not machines.is_running(machine):
            report.append(f"machine {machine} stopped")
            continue
        lines = machines.list_of(machine)
        longer = [other for other in lists if len(other) > len(lines)]
        word = "same" if all(_is_beginning(lines, other) for other in longer) else "apart"
        report.append(f"machine {machine} {len(lines)} {word}")
    return report

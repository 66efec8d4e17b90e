"""Points 112 to 120: three machines that agree on one list of lines."""

import itertools
import unittest

from tests.kit import seeded
from tests.test_journal import Judge
from unbent.errors import InvalidLine, MachineStopped, UnknownLetter, UnknownMachine
from unbent.house import answers_of
from unbent.machines import Machines

NOTE = "note n game total"
BAD_NUMBERS = (-1, 3, -3, 10 ** 20)


class Stopped(Exception):
    """The power of a machine has gone off within a step."""


class Node:
    """A machine as points 113 to 119 describe it, one sentence after the other."""

    def __init__(self, own, sent):
        self.own, self.sent = own, sent
        self.journal = Judge()
        self.start()

    def start(self):
        self.journal.open_again()
        self.promised, self.accepted, self.decided = {}, {}, {}
        self.noted, self.held, self.count, self.attempt = {}, [], 0, None
        self.boot = 0
        for record in self.journal.records():
            word, rest = record.split(" ", 1)
            if word == "boot":
                self.boot += 1
            elif word == "promise":
                place, ballot = map(int, rest.split(" "))
                self.promised[place] = ballot
            elif word == "accept":
                place, ballot, *item = rest.split(" ", 5)
                self.promised[int(place)] = int(ballot)
                self.accepted[int(place)] = (int(ballot), (*map(int, item[:3]), item[3]))
            else:
                place, *item = rest.split(" ", 4)
                self.decided[int(place)] = (*map(int, item[:3]), item[3])
        self.journal.add(f"boot {self.boot}")

    def step(self, act, *told):
        try:
            act(*told)
        except Stopped:
            pass

    def write(self, record):
        self.journal.add(record)
        if not self.journal.on:
            raise Stopped

    def send(self, receiver, *message):
        self.sent.append((self.own, receiver, message))

    def send_both(self, *message):
        for other in range(3):
            if other != self.own:
                self.send(other, *message)

    def next_place(self):
        return next(place for place in itertools.count() if place not in self.decided)

    def hand(self, line):
        item = (self.own, self.boot, self.count, line)
        self.count += 1
        self.held.append(item)
        if self.attempt is None:
            self.step(self.begin)
        return item

    def begin(self):
        place = self.next_place()
        above = max(self.promised.get(place, -1), self.noted.get(place, -1))
        ballot = next(ballot for ballot in itertools.count() if ballot > above and ballot % 3 == self.own)
        self.write(f"promise {place} {ballot}")
        self.promised[place] = ballot
        self.attempt = {"place": place, "ballot": ballot, "asking": True, "answers": {self.own: None}, "item": None}
        self.send_both("ask", place, ballot)

    def end_attempt(self, place, below=None):
        if self.attempt is not None and self.attempt["place"] == place:
            if below is None or self.attempt["ballot"] < below:
                self.attempt = None

    def is_own(self, place, ballot, asking):
        return self.attempt is not None and (
            self.attempt["place"], self.attempt["ballot"], self.attempt["asking"]) == (place, ballot, asking)

    def take(self, sender, message):
        word, place, *more = message
        if word in ("ask", "offer"):
            if place in self.decided:
                self.send(sender, "decided", place, self.decided[place])
            elif more[0] < self.promised.get(place, -1):
                self.send(sender, "higher", place, self.promised[place])
            elif word == "ask":
                self.asked(sender, place, more[0])
            else:
                self.offered(sender, place, more[0], more[1])
        elif word == "higher":
            self.noted[place] = max(more[0], self.noted.get(place, -1))
            self.end_attempt(place, more[0])
        elif word == "promise":
            if self.is_own(place, more[0], True):
                self.attempt["answers"][sender] = more[1]
                if len(self.attempt["answers"]) >= 2:
                    self.offer(place, more[0])
        elif word == "taken":
            if self.is_own(place, more[0], False):
                self.attempt["answers"][sender] = None
                if len(self.attempt["answers"]) >= 2:
                    item = self.attempt["item"]
                    self.learn(place, item, lambda: self.send_both("decided", place, item))
        else:
            self.learn(place, more[0], lambda: None)

    def asked(self, sender, place, ballot):
        if ballot > self.promised.get(place, -1):
            self.write(f"promise {place} {ballot}")
            self.promised[place] = ballot
            self.end_attempt(place, ballot)
        self.send(sender, "promise", place, ballot, self.accepted.get(place))

    def accept(self, place, ballot, item):
        if self.accepted.get(place) != (ballot, item):
            self.write("accept " + " ".join(map(str, (place, ballot, *item))))
            self.promised[place] = ballot
            self.accepted[place] = (ballot, item)
            self.end_attempt(place, ballot)

    def offered(self, sender, place, ballot, item):
        self.accept(place, ballot, item)
        self.send(sender, "taken", place, ballot)

    def offer(self, place, ballot):
        found = [accepted for accepted in self.attempt["answers"].values() if accepted is not None]
        if place in self.accepted:
            found.append(self.accepted[place])
        if not found and not self.held:
            self.attempt = None
            return
        item = max(found)[1] if found else self.held[0]
        self.accept(place, ballot, item)
        self.attempt.update(asking=False, answers={self.own: None}, item=item)
        self.send_both("offer", place, ballot, item)

    def learn(self, place, item, then):
        if place in self.decided:
            return
        self.write("decide " + " ".join(map(str, (place, *item))))
        self.decided[place] = item
        if item in self.held:
            self.held.remove(item)
        self.end_attempt(place)
        then()
        if self.attempt is None and self.held:
            self.begin()

    def lines(self):
        return [self.decided[place][3] for place in range(self.next_place())]


class Model:
    """Three nodes and the letters between them."""

    def __init__(self):
        self.sent = []
        self.due = 0
        self.delivered = set()
        self.nodes = [Node(own, self.sent) for own in range(3)]

    def hand(self, machine, line):
        return self.nodes[machine].hand(line)

    def urge(self, machine):
        self.nodes[machine].step(self.nodes[machine].begin)

    def deliver(self, number):
        self.delivered.add(number)
        sender, receiver, message = self.sent[number]
        node = self.nodes[receiver]
        if not node.journal.on:
            return False
        node.step(node.take, sender, message)
        return True

    def fail(self, machine, count):
        self.nodes[machine].journal.fail(count)

    def start(self, machine):
        if not self.nodes[machine].journal.on:
            self.nodes[machine].start()

    def settle(self, most):
        count = 0
        while count < most:
            due = [number for number in range(len(self.sent)) if number not in self.delivered]
            if not due:
                break
            self.deliver(due[0])
            count += 1
        return count


def journals(machines):
    return [machines.journal_text(machine) for machine in range(3)]


def records(machines, machine):
    return machines.journal_text(machine).split("\n")[:-1]


def running_lists(machines):
    return [machines.list_of(machine) if machines.is_running(machine) else None for machine in range(3)]


class Examples(unittest.TestCase):
    def test_of_the_interface(self):
        machines = Machines()
        self.assertEqual(machines.hand(1, "note n game total"), (1, 0, 0, "note n game total"))
        self.assertEqual(machines.letters(), [(1, 0, ("ask", 0, 1)), (1, 2, ("ask", 0, 1))])
        self.assertIsNone(machines.fail(2, 0))
        self.assertEqual(machines.settle(), 8)
        self.assertEqual((machines.list_of(0), machines.answers(1)), (["note n game total"], ["noted 1"]))
        self.assertIsNone(machines.start(2))
        self.assertEqual(machines.list_of(2), [])
        self.assertIsNone(machines.urge(2))
        self.assertEqual((machines.settle() > 0, machines.list_of(2)), (True, ["note n game total"]))
        self.assertEqual(machines.journal_text(2), "boot 0\nboot 1\npromise 0 2\ndecide 0 1 0 0 note n game total\n")


class Forms(unittest.TestCase):
    def test_new_machines(self):
        machines = Machines()
        self.assertEqual(machines.letters(), [])
        for machine in range(3):
            self.assertIs(machines.is_running(machine), True)
            self.assertEqual((machines.list_of(machine), machines.answers(machine)), ([], []))
            self.assertEqual(machines.journal_text(machine), "boot 0\n")
        self.assertEqual(machines.settle(), 0)

    def test_machines_that_do_not_exist(self):
        machines = Machines()
        machines.fail(0, 0)
        for number in BAD_NUMBERS:
            for call in (lambda at: machines.hand(at, NOTE), lambda at: machines.hand(at, "\n"), machines.urge,
                         lambda at: machines.fail(at, 0), machines.start, machines.is_running, machines.list_of,
                         machines.answers, machines.journal_text):
                with self.assertRaises(UnknownMachine) as caught:
                    call(number)
                self.assertEqual(caught.exception.machine, number)
        self.assertEqual([machines.is_running(machine) for machine in range(3)], [False, True, True])
        self.assertEqual((journals(machines), machines.letters()), (["boot 0\n"] * 3, []))

    def test_stopped_machines(self):
        machines = Machines()
        machines.fail(1, 0)
        self.assertIs(machines.is_running(1), False)
        for call in (lambda: machines.hand(1, NOTE), lambda: machines.hand(1, "\n"), lambda: machines.hand(1, "x" * 201),
                     lambda: machines.urge(1), lambda: machines.list_of(1), lambda: machines.answers(1)):
            with self.assertRaises(MachineStopped) as caught:
                call()
            self.assertEqual(caught.exception.machine, 1)
        self.assertEqual((machines.journal_text(1), machines.letters()), ("boot 0\n", []))
        # A fuse changes nothing while it is stopped.
        machines.fail(1, 100)
        self.assertIs(machines.is_running(1), False)
        self.assertEqual(machines.hand(0, NOTE), (0, 0, 0, NOTE))
        self.assertEqual([machines.deliver(number) for number in (0, 1)], [False, True])
        self.assertEqual(len(machines.letters()), 3)
        machines.start(1)
        self.assertEqual(machines.journal_text(1), "boot 0\nboot 1\n")
        # The number of lines that were handed counts from the start on.
        self.assertEqual(machines.hand(1, "a"), (1, 1, 0, "a"))
        self.assertEqual(machines.hand(1, "a"), (1, 1, 1, "a"))

    def test_starting_a_running_machine(self):
        machines = Machines()
        machines.hand(0, NOTE)
        machines.fail(0, 15)
        before = journals(machines), machines.letters()
        machines.start(0)
        self.assertEqual((journals(machines), machines.letters()), before)
        # It still holds the line and has its attempt and its fuse.
        self.assertEqual(machines.hand(0, "b"), (0, 0, 1, "b"))
        self.assertEqual(len(machines.letters()), 2)
        machines.settle()
        self.assertIs(machines.is_running(0), False)

    def test_lines_that_are_none(self):
        machines = Machines()
        for line in ("x" * 201, "\n", "a\nb", "\t", "\x7f", "\xe4", "note n \u2028"):
            with self.assertRaises(InvalidLine):
                machines.hand(0, line)
        self.assertEqual((machines.letters(), journals(machines)), ([], ["boot 0\n"] * 3))
        # The number of a line that was refused is not used up.
        self.assertEqual(machines.hand(0, ""), (0, 0, 0, ""))

    def test_lines_of_every_form(self):
        lines = ["", " ", "  a  b ", "~" * 200, "1 2 3", "boot 7", "decide 0 1 0 0 x", "note n x"]
        machines = Machines()
        for line in lines:
            machines.hand(1, line)
        machines.settle()
        for machine in range(3):
            self.assertEqual(machines.list_of(machine), lines)
            self.assertEqual(machines.answers(machine), answers_of(lines))
        # They are read from the journals again as they were.
        for machine in range(3):
            machines.fail(machine, 0)
            machines.start(machine)
            self.assertEqual(machines.list_of(machine), lines)

    def test_unknown_letters(self):
        machines = Machines()
        for number in (0, -1, 1):
            with self.assertRaises(UnknownLetter) as caught:
                machines.deliver(number)
            self.assertEqual(caught.exception.number, number)
        machines.hand(0, NOTE)
        for number in (2, -1, -2, 10 ** 20):
            with self.assertRaises(UnknownLetter):
                machines.deliver(number)
        self.assertEqual(len(machines.letters()), 2)

    def test_lists_are_new(self):
        machines = Machines()
        machines.hand(0, NOTE)
        machines.settle()
        count = len(machines.letters())
        machines.letters().clear()
        machines.list_of(0).clear()
        machines.answers(0).clear()
        self.assertGreater(count, 2)
        self.assertEqual((len(machines.letters()), machines.list_of(0), machines.answers(0)), (count, [NOTE], ["noted 1"]))

    def test_settle_with_most(self):
        machines = Machines()
        machines.hand(0, NOTE)
        self.assertEqual((machines.settle(most=0), len(machines.letters())), (0, 2))
        self.assertEqual((machines.settle(most=1), machines.letters()[2:]), (1, [(1, 0, ("promise", 0, 0, None))]))
        self.assertEqual(machines.settle(most=2), 2)
        # A letter that was delivered by itself is not delivered again.
        count = len(machines.letters())
        machines.deliver(count - 1)
        rest = machines.settle(most=1000)
        self.assertEqual(rest, len(machines.letters()) - 4)
        self.assertEqual((machines.settle(), machines.settle(most=5)), (0, 0))
        self.assertEqual(running_lists(machines), [[NOTE]] * 3)

    def test_letters_to_stopped_machines_are_settled_once(self):
        machines = Machines()
        machines.fail(1, 0)
        machines.fail(2, 0)
        machines.hand(0, NOTE)
        self.assertEqual((machines.settle(), machines.settle()), (2, 0))
        machines.start(1)
        self.assertEqual(machines.settle(), 0)
        # But they can be delivered again.
        self.assertEqual((machines.deliver(0), machines.deliver(1)), (True, False))
        self.assertEqual(machines.letters()[2:], [(1, 0, ("promise", 0, 0, None))])


class Steps(unittest.TestCase):
    """The messages, in all states: what is sent, and what is written."""

    def sent(self, machines, count):
        return machines.letters()[count:]

    def after(self, machines, number):
        """What is sent when a letter is delivered."""
        count = len(machines.letters())
        self.assertIs(machines.deliver(number), True)
        return self.sent(machines, count)

    def find(self, machines, *parts):
        """The number of the first letter (sender, receiver, message)."""
        return machines.letters().index(parts)

    def test_ballots(self):
        for machine in range(3):
            machines = Machines()
            machines.urge(machine)
            self.assertEqual(records(machines, machine), ["boot 0", f"promise 0 {machine}"])
            machines.urge(machine)
            self.assertEqual(records(machines, machine)[-1], f"promise 0 {machine + 3}")
            others = [other for other in range(3) if other != machine]
            self.assertEqual(machines.letters(), [(machine, other, ("ask", 0, ballot))
                                                  for ballot in (machine, machine + 3) for other in others])
        # Above every ballot that it has promised.
        for first, second in itertools.permutations(range(3), 2):
            machines = Machines()
            machines.urge(first)
            machines.urge(first)
            machines.deliver(self.find(machines, first, second, ("ask", 0, first + 3)))
            machines.urge(second)
            self.assertEqual(records(machines, second)[-1], f"promise 0 {second + (3 if second > first else 6)}")

    def test_an_ordinary_decision(self):
        machines = Machines()
        item = machines.hand(0, "x")
        self.assertEqual(self.after(machines, 0), [(1, 0, ("promise", 0, 0, None))])
        self.assertEqual(self.after(machines, 2), [(0, 1, ("offer", 0, 0, item)), (0, 2, ("offer", 0, 0, item))])
        self.assertEqual(self.after(machines, 1), [(2, 0, ("promise", 0, 0, None))])
        # A second promise comes when it is offering already.
        self.assertEqual(self.after(machines, 5), [])
        self.assertEqual(self.after(machines, 4), [(2, 0, ("taken", 0, 0))])
        self.assertEqual(self.after(machines, 6), [(0, 1, ("decided", 0, item)), (0, 2, ("decided", 0, item))])
        self.assertEqual(self.after(machines, 3), [(1, 0, ("taken", 0, 0))])
        self.assertEqual((self.after(machines, 9), self.after(machines, 7), self.after(machines, 8)), ([], [], []))
        self.assertEqual(records(machines, 0), ["boot 0", "promise 0 0", "accept 0 0 0 0 0 x", "decide 0 0 0 0 x"])
        for machine in (1, 2):
            self.assertEqual(records(machines, machine), records(machines, 0))

    def test_a_second_line_follows_the_decision(self):
        machines = Machines()
        items = [machines.hand(2, line) for line in ("x", "y")]
        self.assertEqual(len(machines.letters()), 2)
        machines.deliver(0)
        machines.deliver(2)
        machines.deliver(3)
        # First what the decision sends, then the attempt for the next place.
        self.assertEqual(self.after(machines, 5), [
            (2, 0, ("decided", 0, items[0])), (2, 1, ("decided", 0, items[0])),
            (2, 0, ("ask", 1, 2)), (2, 1, ("ask", 1, 2))])
        self.assertEqual(records(machines, 2)[-2:], ["decide 0 2 0 0 x", "promise 1 2"])
        machines.settle()
        self.assertEqual(running_lists(machines), [["x", "y"]] * 3)

    def test_ask_in_each_state(self):
        machines = Machines()
        machines.urge(1)
        ask = self.find(machines, 1, 0, ("ask", 0, 1))
        # New, and again, and below another promise, and equal to it.
        self.assertEqual(self.after(machines, ask), [(0, 1, ("promise", 0, 1, None))])
        self.assertEqual(self.after(machines, ask), [(0, 1, ("promise", 0, 1, None))])
        self.assertEqual(records(machines, 0), ["boot 0", "promise 0 1"])
        machines.urge(2)
        self.assertEqual(self.after(machines, self.find(machines, 2, 0, ("ask", 0, 2))), [(0, 2, ("promise", 0, 2, None))])
        self.assertEqual(self.after(machines, ask), [(0, 1, ("higher", 0, 2))])
        self.assertEqual(records(machines, 0), ["boot 0", "promise 0 1", "promise 0 2"])
        # Accepted, and decided.
        item = machines.hand(2, "x")
        machines.deliver(self.find(machines, 0, 2, ("promise", 0, 2, None)))
        offer = self.find(machines, 2, 0, ("offer", 0, 2, item))
        self.assertEqual(self.after(machines, offer), [(0, 2, ("taken", 0, 2))])
        machines.urge(1)
        again = self.find(machines, 1, 0, ("ask", 0, 4))
        self.assertEqual(self.after(machines, again), [(0, 1, ("promise", 0, 4, (2, item)))])
        machines.deliver(self.find(machines, 0, 2, ("taken", 0, 2)))
        machines.deliver(self.find(machines, 2, 0, ("decided", 0, item)))
        for number in (ask, again):
            self.assertEqual(self.after(machines, number), [(0, 1, ("decided", 0, item))])
        self.assertEqual(self.after(machines, offer), [(0, 2, ("decided", 0, item))])
        self.assertEqual(records(machines, 0), ["boot 0", "promise 0 1", "promise 0 2", "accept 0 2 2 0 0 x",
                                                "promise 0 4", "decide 0 2 0 0 x"])

    def test_offer_in_each_state(self):
        machines = Machines()
        item = machines.hand(0, "x")
        machines.deliver(self.find(machines, 0, 1, ("ask", 0, 0)))
        machines.deliver(self.find(machines, 1, 0, ("promise", 0, 0, None)))
        offer = self.find(machines, 0, 2, ("offer", 0, 0, item))
        # Machine 2 has promised nothing; the offer counts as a promise.
        for _ in range(3):
            self.assertEqual(self.after(machines, offer), [(2, 0, ("taken", 0, 0))])
        self.assertEqual(records(machines, 2), ["boot 0", "accept 0 0 0 0 0 x"])
        machines.urge(1)
        self.assertEqual(self.after(machines, self.find(machines, 1, 2, ("ask", 0, 1))),
                         [(2, 1, ("promise", 0, 1, (0, item)))])
        # Now it has promised more than the offer's ballot.
        self.assertEqual(self.after(machines, offer), [(2, 0, ("higher", 0, 1))])
        self.assertEqual(self.after(machines, self.find(machines, 0, 1, ("offer", 0, 0, item))), [(1, 0, ("higher", 0, 1))])
        # The item that was accepted is offered, although machine 1 holds nothing.
        self.assertEqual(self.after(machines, self.find(machines, 2, 1, ("promise", 0, 1, (0, item)))),
                         [(1, 0, ("offer", 0, 1, item)), (1, 2, ("offer", 0, 1, item))])
        self.assertEqual(self.after(machines, self.find(machines, 1, 2, ("offer", 0, 1, item))), [(2, 1, ("taken", 0, 1))])
        self.assertEqual(records(machines, 2), ["boot 0", "accept 0 0 0 0 0 x", "promise 0 1", "accept 0 1 0 0 0 x"])

    def two_accepted(self):
        """Machine 0 has accepted x with ballot 0, machine 1 has accepted y with ballot 1."""
        machines = Machines()
        items = [machines.hand(0, "x"), machines.hand(1, "y")]
        machines.deliver(self.find(machines, 0, 2, ("ask", 0, 0)))
        machines.deliver(self.find(machines, 2, 0, ("promise", 0, 0, None)))
        machines.deliver(self.find(machines, 1, 2, ("ask", 0, 1)))
        machines.deliver(self.find(machines, 2, 1, ("promise", 0, 1, None)))
        self.assertEqual(records(machines, 0)[-1], "accept 0 0 0 0 0 x")
        self.assertEqual(records(machines, 1)[-1], "accept 0 1 1 0 0 y")
        return machines, items

    def test_the_item_that_another_one_accepted(self):
        # Machine 2 has accepted nothing: it offers what the first answer says, not its own line.
        for other in (0, 1):
            machines, items = self.two_accepted()
            machines.hand(2, "z")
            machines.urge(2)
            ballot = int(records(machines, 2)[-1].split(" ")[2])
            promise = self.after(machines, self.find(machines, 2, other, ("ask", 0, ballot)))
            self.assertEqual(promise, [(other, 2, ("promise", 0, ballot, (other, items[other])))])
            self.assertEqual(self.after(machines, len(machines.letters()) - 1),
                             [(2, 0, ("offer", 0, ballot, items[other])), (2, 1, ("offer", 0, ballot, items[other]))])

    def test_the_accepted_item_with_the_highest_ballot(self):
        # Of its own and the other one's: whichever of the two asks, y has the higher ballot.
        for own, other in ((0, 1), (1, 0)):
            machines, items = self.two_accepted()
            machines.urge(own)
            ballot = int(records(machines, own)[-1].split(" ")[2])
            promise = self.after(machines, self.find(machines, own, other, ("ask", 0, ballot)))
            self.assertEqual(promise, [(other, own, ("promise", 0, ballot, (other, items[other])))])
            found = self.after(machines, len(machines.letters()) - 1)
            self.assertEqual([letter[2] for letter in found], [("offer", 0, ballot, items[1])] * 2)
            self.assertEqual(records(machines, own)[-1], f"accept 0 {ballot} 1 0 0 y")

    def test_the_own_accepted_item_alone(self):
        # The other one has accepted nothing.
        machines, items = self.two_accepted()
        machines.urge(0)
        machines.deliver(self.find(machines, 0, 2, ("ask", 0, 3)))
        found = self.after(machines, self.find(machines, 2, 0, ("promise", 0, 3, None)))
        self.assertEqual([letter[2] for letter in found], [("offer", 0, 3, items[0])] * 2)

    def test_an_attempt_without_lines(self):
        machines = Machines()
        machines.urge(0)
        machines.deliver(0)
        # Nothing accepted and nothing held: the attempt ends, and the second promise does nothing.
        self.assertEqual(self.after(machines, 2), [])
        machines.deliver(1)
        self.assertEqual(self.after(machines, 3), [])
        self.assertEqual(records(machines, 0), ["boot 0", "promise 0 0"])
        # So the next line begins one.
        machines.hand(0, "x")
        self.assertEqual(machines.letters()[4:], [(0, 1, ("ask", 0, 3)), (0, 2, ("ask", 0, 3))])
        # A line that comes while it asks is offered.
        machines = Machines()
        machines.urge(0)
        machines.deliver(0)
        item = machines.hand(0, "x")
        self.assertEqual(len(machines.letters()), 3)
        self.assertEqual(self.after(machines, 2)[0], (0, 1, ("offer", 0, 0, item)))

    def test_promises_that_do_not_count(self):
        machines = Machines()
        machines.hand(0, "x")
        promise = self.after(machines, 0)[0]
        number = self.find(machines, *promise)
        # Of an attempt that was given up.
        machines.urge(0)
        self.assertEqual(self.after(machines, number), [])
        machines.fail(0, 0)
        machines.start(0)
        self.assertEqual(self.after(machines, number), [])
        # Without an attempt, and of another place.
        self.assertEqual(records(machines, 0), ["boot 0", "promise 0 0", "promise 0 3", "boot 1"])

    def test_taken_letters_that_do_not_count(self):
        machines = Machines()
        item = machines.hand(0, "x")
        machines.deliver(0)
        machines.deliver(2)
        taken = self.after(machines, 3)[0]
        self.assertEqual(taken, (1, 0, ("taken", 0, 0)))
        number = self.find(machines, *taken)
        # The attempt was given up; a new one with another ballot is asking.
        machines.urge(0)
        self.assertEqual(self.after(machines, number), [])
        machines.settle()
        self.assertEqual(running_lists(machines), [["x"]] * 3)
        self.assertEqual(self.after(machines, number), [])
        self.assertEqual(records(machines, 0)[-1], "decide 0 0 0 0 x")
        self.assertEqual(item, (0, 0, 0, "x"))

    def test_higher(self):
        machines = Machines()
        machines.hand(0, "x")
        machines.hand(1, "y")
        # Machine 2 promises ballot 1, so machine 0 hears of a higher one, and its attempt ends.
        machines.deliver(self.find(machines, 1, 2, ("ask", 0, 1)))
        machines.deliver(self.find(machines, 0, 2, ("ask", 0, 0)))
        higher = self.find(machines, 2, 0, ("higher", 0, 1))
        self.assertEqual(self.after(machines, higher), [])
        promise = self.after(machines, self.find(machines, 0, 1, ("ask", 0, 0)))
        self.assertEqual(promise, [(1, 0, ("higher", 0, 1))])
        # The noted ballot counts for the next attempt, which nothing but a line or an urge begins.
        item = machines.hand(0, "z")
        self.assertEqual(item, (0, 0, 1, "z"))
        self.assertEqual(machines.letters()[-2:], [(0, 1, ("ask", 0, 3)), (0, 2, ("ask", 0, 3))])
        # An old one ends nothing, and lowers nothing.
        self.assertEqual(self.after(machines, higher), [])
        count = len(machines.letters())
        machines.hand(0, "w")
        self.assertEqual(len(machines.letters()), count)

    def test_noted_ballots(self):
        # Machine 1 asks with 1, 4 and 7, and machine 0, which promised nothing else, is told of 7.
        machines = Machines()
        for _ in range(3):
            machines.urge(1)
        machines.deliver(self.find(machines, 1, 2, ("ask", 0, 7)))
        machines.urge(0)
        machines.deliver(self.find(machines, 0, 2, ("ask", 0, 0)))
        higher = self.find(machines, 2, 0, ("higher", 0, 7))
        machines.deliver(higher)
        self.assertEqual(records(machines, 0), ["boot 0", "promise 0 0"])
        machines.urge(0)
        self.assertEqual(records(machines, 0)[-1], "promise 0 9")
        # They are lost when it stops, and what was promised is not.
        machines.deliver(self.find(machines, 0, 1, ("ask", 0, 9)))
        machines.urge(2)
        machines.deliver(self.find(machines, 2, 1, ("ask", 0, 8)))
        machines.deliver(self.find(machines, 1, 2, ("higher", 0, 9)))
        machines.fail(2, 0)
        machines.start(2)
        machines.urge(2)
        self.assertEqual(records(machines, 2)[-1], "promise 0 11")
        machines = Machines()
        machines.urge(1)
        machines.urge(1)
        machines.deliver(self.find(machines, 1, 2, ("ask", 0, 4)))
        machines.urge(0)
        machines.deliver(self.find(machines, 0, 2, ("ask", 0, 0)))
        machines.deliver(self.find(machines, 2, 0, ("higher", 0, 4)))
        machines.fail(0, 0)
        machines.start(0)
        machines.urge(0)
        self.assertEqual(records(machines, 0), ["boot 0", "promise 0 0", "boot 1", "promise 0 3"])

    def test_a_higher_promise_ends_an_attempt(self):
        machines = Machines()
        machines.hand(0, "x")
        machines.urge(1)
        machines.deliver(0)
        # Machine 0 promises ballot 1 for the place of its attempt.
        machines.deliver(self.find(machines, 1, 0, ("ask", 0, 1)))
        machines.deliver(self.find(machines, 0, 2, ("ask", 0, 0)))
        self.assertEqual(self.after(machines, self.find(machines, 2, 0, ("promise", 0, 0, None))), [])
        machines.hand(0, "y")
        self.assertEqual(records(machines, 0)[-1], "promise 0 3")
        # An accepted offer does the same.
        machines = Machines()
        machines.hand(0, "x")
        item = machines.hand(1, "y")
        machines.deliver(self.find(machines, 1, 2, ("ask", 0, 1)))
        machines.deliver(self.find(machines, 2, 1, ("promise", 0, 1, None)))
        machines.deliver(self.find(machines, 1, 0, ("offer", 0, 1, item)))
        machines.hand(0, "z")
        self.assertEqual(records(machines, 0), ["boot 0", "promise 0 0", "accept 0 1 1 0 0 y", "promise 0 3"])

    def test_decided(self):
        machines = Machines()
        item = machines.hand(0, "x")
        machines.hand(1, "y")
        machines.deliver(self.find(machines, 0, 2, ("ask", 0, 0)))
        machines.deliver(self.find(machines, 2, 0, ("promise", 0, 0, None)))
        machines.deliver(self.find(machines, 0, 2, ("offer", 0, 0, item)))
        machines.deliver(self.find(machines, 2, 0, ("taken", 0, 0)))
        # Machine 1 learns it, its attempt for the place ends, and it begins one for the next place.
        number = self.find(machines, 0, 1, ("decided", 0, item))
        self.assertEqual(self.after(machines, number), [(1, 0, ("ask", 1, 1)), (1, 2, ("ask", 1, 1))])
        self.assertEqual(self.after(machines, number), [])
        self.assertEqual(records(machines, 1), ["boot 0", "promise 0 1", "decide 0 0 0 0 x", "promise 1 1"])
        # Machine 2 holds nothing.
        self.assertEqual(self.after(machines, self.find(machines, 0, 2, ("decided", 0, item))), [])
        self.assertEqual(records(machines, 2), ["boot 0", "promise 0 0", "accept 0 0 0 0 0 x", "decide 0 0 0 0 x"])

    def test_a_place_that_is_learned_out_of_order(self):
        machines = Machines()
        items = [machines.hand(0, line) for line in ("x", "y")]
        machines.fail(2, 0)
        machines.settle()
        self.assertEqual(machines.list_of(0), ["x", "y"])
        machines.start(2)
        machines.deliver(self.find(machines, 0, 2, ("decided", 1, items[1])))
        self.assertEqual((machines.list_of(2), machines.answers(2)), ([], []))
        machines.urge(2)
        self.assertEqual(records(machines, 2)[-1], "promise 0 2")
        # Learning another place does not end the attempt.
        machines.deliver(self.find(machines, 0, 2, ("decided", 0, items[0])))
        self.assertEqual(machines.list_of(2), ["x", "y"])
        machines.hand(2, "z")
        self.assertEqual(records(machines, 2)[-1], "promise 2 2")

    def test_a_decision_elsewhere_keeps_the_attempt(self):
        machines = Machines()
        items = [machines.hand(0, line) for line in ("x", "y")]
        machines.fail(2, 0)
        machines.settle()
        machines.start(2)
        machines.hand(2, "z")
        count = len(machines.letters())
        machines.deliver(self.find(machines, 0, 2, ("decided", 1, items[1])))
        # It has an attempt for place 0 still, so it begins no other one.
        self.assertEqual((len(machines.letters()), records(machines, 2)[-1]), (count, "decide 1 0 0 1 y"))
        machines.settle()
        self.assertEqual(machines.list_of(2), ["x", "y", "z"])

    def test_urging(self):
        machines = Machines()
        machines.hand(0, "x")
        machines.deliver(0)
        machines.urge(0)
        self.assertEqual(machines.letters()[3:], [(0, 1, ("ask", 0, 3)), (0, 2, ("ask", 0, 3))])
        # The first attempt is given up.
        self.assertEqual(self.after(machines, 2), [])
        machines.settle()
        self.assertEqual(running_lists(machines), [["x"]] * 3)

    def test_all_courses_of_two_machines(self):
        # One line each, every order of the first deliveries: at most one of them is decided at a place.
        for order in itertools.permutations(range(4)):
            machines = Machines()
            machines.hand(0, "x")
            machines.hand(1, "y")
            for number in order:
                machines.deliver(number)
            machines.settle()
            for machine in (0, 1, 0, 1):
                machines.urge(machine)
                machines.settle()
            lists = running_lists(machines)
            self.assertEqual(lists, [lists[0]] * 3)
            self.assertEqual(sorted(lists[0]), ["x", "y"])


class Failing(unittest.TestCase):
    def test_each_fuse_within_a_decision(self):
        # The machine 0 decides two lines; its power fails behind each number of characters.
        whole = Machines()
        for line in ("x", "y y"):
            whole.hand(0, line)
        whole.settle()
        text = whole.journal_text(0)
        for fuse in range(len(text) - len("boot 0\n") + 2):
            machines, model = Machines(), Model()
            for item in (machines, model):
                item.fail(0, fuse)
            for line in ("x", "y y"):
                if machines.is_running(0):
                    self.assertEqual(machines.hand(0, line), model.hand(0, line))
                    self.assertEqual(machines.letters(), model.sent)
            self.assertEqual(machines.settle(), model.settle(1000))
            self.assertEqual(machines.letters(), model.sent)
            self.assertEqual(machines.journal_text(0), text[:fuse + len("boot 0\n")])
            self.assertIs(machines.is_running(0), fuse > len(text) - len("boot 0\n"))
            if not machines.is_running(0):
                machines.start(0)
                kept = text[:fuse + len("boot 0\n")].split("\n")[:-1]
                self.assertEqual(records(machines, 0), kept + ["boot 1"])
                lines = [record.split(" ", 5)[5] for record in kept if record.startswith("decide")]
                self.assertEqual(machines.list_of(0), lines)

    def test_hand_with_a_fuse(self):
        for fuse in range(len("promise 0 0\n") + 1):
            machines = Machines()
            machines.fail(0, fuse)
            if fuse == 0:
                with self.assertRaises(MachineStopped):
                    machines.hand(0, "x")
                continue
            # The item is returned all the same.
            self.assertEqual(machines.hand(0, "x"), (0, 0, 0, "x"))
            self.assertEqual((machines.is_running(0), machines.letters()), (False, []))
            self.assertEqual(machines.journal_text(0), "boot 0\n" + "promise 0 0\n"[:fuse])
            machines.start(0)
            # The line is lost, and the promise is kept if its record was written.
            written = fuse == len("promise 0 0\n")
            self.assertEqual(machines.hand(0, "x"), (0, 1, 0, "x"))
            self.assertEqual(records(machines, 0)[-1], "promise 0 3" if written else "promise 0 0")

    def test_urge_with_a_fuse(self):
        for fuse in range(1, len("promise 0 0\n") + 2):
            machines = Machines()
            machines.fail(0, fuse)
            self.assertIsNone(machines.urge(0))
            running = fuse > len("promise 0 0\n")
            self.assertIs(machines.is_running(0), running)
            self.assertEqual(len(machines.letters()), 2 if running else 0)

    def test_a_hand_that_begins_nothing_needs_no_power(self):
        machines = Machines()
        machines.hand(0, "x")
        machines.fail(0, 1)
        self.assertEqual(machines.hand(0, "y"), (0, 0, 1, "y"))
        self.assertIs(machines.is_running(0), True)

    def test_what_was_sent_before_the_power_failed_stays(self):
        # The decision is written and told; the power fails while the next attempt begins.
        machines = Machines()
        items = [machines.hand(0, line) for line in ("x", "y")]
        for number in (0, 2, 3):
            machines.deliver(number)
        machines.fail(0, len("decide 0 0 0 0 x\n") + 3)
        count = len(machines.letters())
        self.assertIs(machines.deliver(count - 1), True)
        self.assertEqual(machines.letters()[count:], [(0, 1, ("decided", 0, items[0])), (0, 2, ("decided", 0, items[0]))])
        self.assertIs(machines.is_running(0), False)
        self.assertEqual(machines.journal_text(0)[-20:], "decide 0 0 0 0 x\npro")
        # Right behind the record of the decision it sends nothing.
        machines = Machines()
        machines.hand(0, "x")
        for number in (0, 2, 3):
            machines.deliver(number)
        machines.fail(0, len("decide 0 0 0 0 x\n"))
        count = len(machines.letters())
        machines.deliver(count - 1)
        self.assertEqual((len(machines.letters()), machines.is_running(0)), (count, False))
        machines.start(0)
        self.assertEqual(machines.list_of(0), ["x"])

    def test_starting_again_restores_what_the_records_say(self):
        machines = Machines()
        item = machines.hand(1, "a line")
        machines.deliver(0)
        machines.deliver(2)
        machines.deliver(3)
        self.assertEqual(records(machines, 0), ["boot 0", "promise 0 1", "accept 0 1 1 0 0 a line"])
        machines.fail(0, 0)
        machines.start(0)
        # The accepted item and the promise are still there.
        machines.urge(2)
        machines.urge(2)
        machines.deliver(len(machines.letters()) - 4)
        self.assertEqual(machines.letters()[-1], (0, 2, ("promise", 0, 2, (1, item))))
        machines.deliver(0)
        self.assertEqual(machines.letters()[-1], (0, 1, ("higher", 0, 2)))
        # It holds nothing, and has no attempt.
        machines.fail(1, 0)
        machines.start(1)
        machines.deliver(2)
        self.assertEqual(records(machines, 1), ["boot 0", "promise 0 1", "accept 0 1 1 0 0 a line", "boot 1"])
        machines.urge(1)
        machines.settle()
        # The lost line is decided all the same, because it was accepted.
        self.assertEqual(running_lists(machines), [["a line"]] * 3)

    def test_boots(self):
        machines = Machines()
        for boot in range(1, 5):
            machines.fail(2, 0)
            machines.start(2)
            self.assertEqual(records(machines, 2), [f"boot {at}" for at in range(boot + 1)])
            self.assertEqual(machines.hand(2, "x")[1], boot)
            machines.fail(2, 0)
            machines.start(2)
            self.assertEqual(records(machines, 2)[-1], f"boot {boot + 1}")
            machines = Machines()
            for _ in range(boot):
                machines.fail(2, 0)
                machines.start(2)


class Promises(unittest.TestCase):
    def decided(self, machines):
        """The items that the journals say to be decided, at each place."""
        found = {}
        for machine in range(3):
            for record in records(machines, machine):
                if record.startswith("decide"):
                    _, place, *item = record.split(" ", 5)
                    found.setdefault(int(place), set()).add((*map(int, item[:3]), item[3]))
        return found

    def act(self, source, machines, model, handed, trouble):
        """One random step of both; their answers are the same."""
        machine = source.randrange(3)
        way = source.random()
        if way < trouble:
            count = source.choice((0, source.randint(1, 60)))
            machines.fail(machine, count)
            model.fail(machine, count)
        elif way < 3 * trouble:
            machines.start(machine)
            model.start(machine)
        elif way < 0.65 and model.sent:
            late = range(max(0, len(model.sent) - 6), len(model.sent))
            number = source.choice(late if source.random() < 0.8 else range(len(model.sent)))
            self.assertIs(machines.deliver(number), model.deliver(number))
        elif way < 0.8:
            most = source.randint(0, 12)
            self.assertEqual(machines.settle(most=most), model.settle(most))
        elif machines.is_running(machine) and way < 0.95:
            line = source.choice(("x", "y", "", " a b ", "note n x"))
            item = machines.hand(machine, line)
            self.assertEqual(item, model.hand(machine, line))
            self.assertNotIn(item, handed)
            handed.append(item)
        elif machines.is_running(machine):
            machines.urge(machine)
            model.urge(machine)

    def compare(self, machines, model):
        self.assertEqual(machines.letters(), model.sent)
        for machine, node in enumerate(model.nodes):
            self.assertIs(machines.is_running(machine), node.journal.on)
            self.assertEqual(machines.journal_text(machine), node.journal.written)
            if node.journal.on:
                self.assertEqual(machines.list_of(machine), node.lines())

    def check_lists(self, machines, longest):
        """The lists are beginnings of each other, also of all that there were before."""
        for machine in range(3):
            if machines.is_running(machine):
                found = machines.list_of(machine)
                self.assertGreaterEqual(len(found), len(longest[machine]))
                for other in longest:
                    size = min(len(found), len(other))
                    self.assertEqual(found[:size], other[:size])
                longest[machine] = found

    def test_random_courses(self):
        source = seeded(301)
        lengths, places = [], 0
        for _ in range(150):
            machines, model = Machines(), Model()
            handed, longest = [], [[], [], []]
            trouble = source.choice((0, 0.01, 0.05, 0.1))
            for _ in range(source.randint(20, 150)):
                self.act(source, machines, model, handed, trouble)
                self.compare(machines, model)
                self.check_lists(machines, longest)
            found = self.decided(machines)
            items = []
            for at in found.values():
                self.assertEqual(len(at), 1)
                items += at
            # Every decided item was handed in, and none is decided twice.
            self.assertEqual(len(items), len(set(items)))
            self.assertLessEqual(set(items), set(handed))
            places += len(items)
            # Settling comes to an end by itself.
            self.assertLess(machines.settle(most=10 ** 6), 10 ** 6)
            model.settle(10 ** 6)
            self.compare(machines, model)
            lengths.append(max(len(lines) for lines in longest))
        self.assertGreater(max(lengths), 4)
        self.assertGreater(places, 150)

    def test_urging_two_times(self):
        source = seeded(302)
        holding = 0
        for _ in range(250):
            machines, model = Machines(), Model()
            for _ in range(source.randint(5, 100)):
                self.act(source, machines, model, [], 0.05)
            stopped = source.choice((None, 0, 1, 2))
            for machine in range(3):
                # No fuse is left, and at most one machine is stopped.
                for item in (machines, model):
                    item.fail(machine, 0)
                    if machine != stopped:
                        item.start(machine)
            running = [machine for machine in range(3) if machine != stopped]
            machine = source.choice(running)
            self.assertEqual(machines.hand(machine, "more"), model.hand(machine, "more"))
            # Others come in between, mostly without a line of their own.
            for machine in source.choices(running, k=source.randint(1, 6)):
                machines.urge(machine)
                model.urge(machine)
            # All letters are delivered, in any order.
            due = [0]
            while due:
                number = source.choice(due)
                self.assertIs(machines.deliver(number), model.deliver(number))
                due = [at for at in range(len(model.sent)) if at not in model.delivered]
            self.assertEqual(machines.settle(), 0)
            self.compare(machines, model)
            for machine in range(3):
                if machine != stopped:
                    while model.nodes[machine].held:
                        holding += 1
                        before = len(machines.list_of(machine))
                        for _ in range(2):
                            machines.urge(machine)
                            model.urge(machine)
                            machines.settle()
                            model.settle(1000)
                        self.compare(machines, model)
                        self.assertGreater(len(machines.list_of(machine)), before)
        self.assertGreater(holding, 20)

    def test_equal_courses(self):
        found = []
        for _ in range(2):
            source = seeded(303)
            machines, model = Machines(), Model()
            for _ in range(200):
                self.act(source, machines, model, [], 0.03)
            found.append((machines.letters(), journals(machines)))
        self.assertEqual(found[0], found[1])

    def test_machines_share_nothing(self):
        first, second = Machines(), Machines()
        first.hand(0, "x")
        first.settle()
        self.assertEqual((second.letters(), journals(second)), ([], ["boot 0\n"] * 3))


if __name__ == "__main__":
    unittest.main()

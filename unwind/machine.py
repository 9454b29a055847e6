"""The machine: rows of code, piles, boxes, and stretches for the faults."""

from unwind.programs import DEEP, DEEPEST, NOUGHT, reckoned


class Entered:
    """A function that is entered. Its place is that of the row to be done next.

    So the row that is being done, or the call that is being waited for, stands
    one ahead of it.
    """

    def __init__(self, place, number, boxes):
        self.place = place
        self.boxes = [number] + [0] * (boxes - 1)
        self.pile = []


class Machine:
    """A run of the machine; its outcome is None until the run is over."""

    def __init__(self, parts, turns):
        rows, stretches, begins, boxes = parts
        self.rows = rows
        self.stretches = stretches
        self.begins = begins
        self.boxes = boxes
        self.turns = turns
        self.standing = []
        self.said = []
        self.outcome = None

    def take_turn(self):
        """Whether a turn was left to be taken; the run is over where none was."""
        if self.turns < 1:
            self.outcome = ("tired", 0)
            return False
        self.turns -= 1
        return True

    def enter(self, function, number):
        """Enter a function, or let the fault of too many come out of its call."""
        if len(self.standing) == DEEPEST:
            self.fault(DEEP)
        else:
            self.standing.append(Entered(self.begins[function], number, self.boxes))

    def fault(self, number):
        """Go on where a stretch says, leaving all functions that have none for it."""
        while self.standing:
            now = self.standing[-1]
            goal = goal_of(self.stretches, now.place - 1)
            if goal is not None:
                now.pile = [number]
                now.place = goal
                return
            self.standing.pop()
        self.outcome = ("fault", number)


def goal_of(stretches, place):
    """The goal of the first stretch that holds a place, or None."""
    for first, behind, goal in stretches:
        if first <= place < behind:
            return goal
    return None


def run(parts, number, turns):
    """What the machine tells: what was said, and how the run ended."""
    machine = Machine(parts, turns)
    machine.enter(0, number)
    while machine.outcome is None:
        _step(machine)
    word, worth = machine.outcome
    return (machine.said, word, worth)


def _step(machine):
    now = machine.standing[-1]
    row = machine.rows[now.place]
    now.place += 1
    act = ACTS[row[0]]
    act(machine, now, row)


def _put(machine, now, row):
    now.pile.append(row[1])


def _get(machine, now, row):
    now.pile.append(now.boxes[row[1]])


def _set(machine, now, row):
    now.boxes[row[1]] = now.pile.pop()


def _say(machine, now, row):
    machine.said.append(now.pile.pop())


def _reckon(machine, now, row):
    other = now.pile.pop()
    one = now.pile.pop()
    both = reckoned(row[0], one, other)
    if both is None:
        machine.fault(NOUGHT)
    else:
        now.pile.append(both)


def _go(machine, now, row):
    now.place = row[1]


def _nought(machine, now, row):
    if now.pile.pop() == 0:
        now.place = row[1]


def _on(machine, now, row):
    now.place = now.boxes[row[1]]


def _turn(machine, now, row):
    machine.take_turn()


def _call(machine, now, row):
    number = now.pile.pop()
    if machine.take_turn():
        machine.enter(row[1], number)


def _back(machine, now, row):
    number = now.pile.pop()
    machine.standing.pop()
    if machine.standing:
        machine.standing[-1].pile.append(number)
    else:
        machine.outcome = ("answer", number)


def _raise(machine, now, row):
    machine.fault(now.pile.pop())


ACTS = {
    "put": _put,
    "get": _get,
    "set": _set,
    "say": _say,
    "add": _reckon,
    "sub": _reckon,
    "less": _reckon,
    "share": _reckon,
    "go": _go,
    "nought": _nought,
    "on": _on,
    "turn": _turn,
    "call": _call,
    "back": _back,
    "raise": _raise,
}

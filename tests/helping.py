"""Short makers of programs, a second teller of them, and programs made by the thousand."""

import copy
import unittest

from unwind.machine import run
from unwind.making import made
from unwind.trees import told

# A number of more digits than Python makes a string of.
GREAT = 10 ** 5000
ZERO = ("num", 0)
ONE = ("num", 1)
LEAVE = ("leave",)
NEXT = ("next",)
NOUGHT_SHARE = ("share", ONE, ZERO)


def num(n):
    return ("num", n)


def box(k):
    return ("box", k)


def add(one, other):
    return ("add", one, other)


def sub(one, other):
    return ("sub", one, other)


def less(one, other):
    return ("less", one, other)


def share(one, other):
    return ("share", one, other)


def call(f, one=ZERO):
    return ("call", f, one)


def say(n):
    return ("say", num(n))


def say_box(k):
    return ("say", box(k))


def put(k, n):
    return ("set", k, num(n))


def give(n):
    return ("give", num(n))


def throw(n):
    return ("raise", num(n))


def if_(asked, ones, others=()):
    return ("if", asked, ones, list(others))


def loop(asked, body):
    return ("loop", asked, body)


def catch(body, wanted, k, hand):
    return ("catch", body, wanted, k, hand)


def end(body, last):
    return ("end", body, last)


def chatty(n):
    """A function that says its number and gives it back."""
    return [say(n), give(n)]


def blocks_within(depth, way="if"):
    """A block in which others stand, depth in all."""
    block = []
    for _ in range(depth - 1):
        block = [{
            "if": ("if", ONE, block, []),
            "else": ("if", ONE, [], block),
            "loop": ("loop", ZERO, block),
            "body": ("catch", block, None, 0, []),
            "hand": ("catch", [], None, 0, block),
            "begun": ("end", block, []),
            "last": ("end", [], block),
        }[way]]
    return block


def parts_within(depth, left=True, innermost=ONE):
    """An expression in which others stand, depth in all."""
    expression = innermost
    for _ in range(depth - 1):
        expression = add(expression, ONE) if left else add(ONE, expression)
    return expression


# The second teller: a program is turned into Python's own while, try and finally.

class TwinTired(BaseException):
    pass


class TwinFault(Exception):
    def __init__(self, number):
        self.number = number


class Twin:
    def __init__(self, turns):
        self.turns = turns
        self.entered = 0
        self.said = []
        self.tired = False

    def turn(self):
        if self.turns == 0:
            self.tired = True
            raise TwinTired
        self.turns -= 1
        return True

    def share(self, one, other):
        if other == 0:
            raise TwinFault(101)
        return one // other

    def call(self, function, number):
        self.turn()
        return self.enter(function, number)

    def enter(self, function, number):
        if self.entered == 8:
            raise TwinFault(102)
        self.entered += 1
        try:
            answer = function([number, 0, 0, 0])
        finally:
            self.entered -= 1
        return 0 if answer is None else answer

    def fault(self, number):
        raise TwinFault(number)


def twin_expression(e):
    word = e[0]
    if word == "num":
        return f"({e[1]:#x})"
    if word == "box":
        return f"b[{e[1]}]"
    if word == "call":
        return f"m.call(f{e[1]}, {twin_expression(e[2])})"
    one, other = twin_expression(e[1]), twin_expression(e[2])
    if word == "share":
        return f"m.share({one}, {other})"
    if word == "less":
        return f"int({one} < {other})"
    return f"({one} {'+' if word == 'add' else '-'} {other})"


def twin_block(block, depth):
    rows = [" " * depth + "pass"]
    for statement in block:
        rows += twin_statement(statement, depth)
    return rows


def twin_statement(s, depth):
    pad = " " * depth
    word = s[0]
    if word == "set":
        return [f"{pad}b[{s[1]}] = {twin_expression(s[2])}"]
    if word == "say":
        return [f"{pad}m.said.append({twin_expression(s[1])})"]
    if word == "give":
        return [f"{pad}return {twin_expression(s[1])}"]
    if word == "raise":
        return [f"{pad}m.fault({twin_expression(s[1])})"]
    if word == "leave":
        return [pad + "break"]
    if word == "next":
        return [pad + "continue"]
    if word == "if":
        return ([f"{pad}if {twin_expression(s[1])}:"] + twin_block(s[2], depth + 1)
                + [pad + "else:"] + twin_block(s[3], depth + 1))
    if word == "loop":
        return ([f"{pad}while m.turn() and {twin_expression(s[1])}:"]
                + twin_block(s[2], depth + 1))
    if word == "end":
        return ([pad + "try:"] + twin_block(s[1], depth + 1)
                + [pad + "finally:", f"{pad} if not m.tired:"] + twin_block(s[2], depth + 2))
    others_go_on = [] if s[2] is None else [f"{pad} if fault.number != {s[2]:#x}: raise"]
    return ([pad + "try:"] + twin_block(s[1], depth + 1)
            + [f"{pad}except Fault as fault:"] + others_go_on
            + [f"{pad} b[{s[3]}] = fault.number"] + twin_block(s[4], depth + 1))


def twin(program):
    """A function of a number and of turns that tells what the program tells."""
    rows = ["def made(m):"]
    for number, block in enumerate(program):
        rows.append(f" def f{number}(b):")
        rows += twin_block(block, 2)
    rows.append(" return f0")
    room = {"Fault": TwinFault}
    exec(compile("\n".join(rows), "twin", "exec"), room)

    def told(number, turns):
        m = Twin(turns)
        try:
            return (m.said, "answer", m.enter(room["made"](m), number))
        except TwinFault as fault:
            return (m.said, "fault", fault.number)
        except TwinTired:
            return (m.said, "tired", 0)
    return told


# Programs by the thousand, the same ones each time.

class Dice:
    def __init__(self, seed):
        self.state = seed * 7919 + 1

    def below(self, n):
        self.state = (self.state * 6364136223846793005 + 1442695040888963407) % 2 ** 64
        return (self.state >> 33) % n

    def one_of(self, things):
        return things[self.below(len(things))]


class Growing:
    """Grows programs that are not refused."""

    def __init__(self, seed, most=5, great=False):
        self.dice = Dice(seed)
        self.most = most
        self.numbers = [-3, -1, 0, 1, 2, 7, 101] + [GREAT, -GREAT] * great
        self.faults = [1, 2, 101, 102] + [GREAT, -GREAT] * great
        self.functions = 1 + self.dice.below(3)
        self.blocks = 0

    def program(self):
        return [self.block(1, False) for _ in range(self.functions)]

    def expression(self, room):
        below = self.dice.below
        if room < 2 or below(2):
            return box(below(4)) if below(2) else num(self.dice.one_of(self.numbers))
        word = self.dice.one_of(["add", "sub", "less", "share", "share", "call"])
        if word == "call":
            return call(below(self.functions), self.expression(room - 1))
        return (word, self.expression(room - 1), self.expression(room - 1))

    def block(self, depth, looped):
        self.blocks += 1
        mark = [say(self.blocks)] * (self.dice.below(4) > 0)
        return mark + [self.statement(depth, looped) for _ in range(self.dice.below(4))]

    def statement(self, depth, looped):
        below = self.dice.below
        words = ["set", "say", "raise", "give"] + ["leave", "next"] * looped
        if depth < self.most:
            words += ["if", "loop", "loop", "catch", "catch", "end", "end"] * 2
        word = self.dice.one_of(words)
        if word == "set":
            return ("set", below(4), self.expression(4))
        if word in ("say", "give"):
            return (word, self.expression(4))
        if word == "raise":
            return ("raise", num(self.dice.one_of(self.faults)))
        if word in ("leave", "next"):
            return (word,)

        def block(inside=looped):
            return self.block(depth + 1, inside)
        if word == "if":
            return ("if", self.expression(3), block(), block())
        if word == "loop":
            return ("loop", self.expression(3), block(True))
        if word == "end":
            return ("end", block(), block())
        wanted = self.dice.one_of([None, None] + self.faults)
        return ("catch", block(), wanted, below(4), block())


class Telling(unittest.TestCase):
    """Tests by what a program tells, by its statements, by the machine and by its twin."""

    def tells(self, program, expected, number=0, turns=1000):
        before = copy.deepcopy(program)
        self.assertEqual(told(program, number, turns), expected)
        self.assertEqual(run(made(program), number, turns), expected)
        self.assertEqual(program, before)

    def answers(self, program, said, answer=0, number=0, turns=1000):
        self.tells(program, (said, "answer", answer), number, turns)

    def faults(self, program, said, fault, number=0, turns=1000):
        self.tells(program, (said, "fault", fault), number, turns)

    def tires(self, program, said, turns, number=0):
        self.tells(program, (said, "tired", 0), number, turns)

    def all_alike(self, program, numbers, turns):
        parts = made(program)
        other = twin(program)
        for number in numbers:
            for some in turns:
                expected = other(number, some)
                self.assertEqual(told(program, number, some), expected, (program, number, some))
                self.assertEqual(run(parts, number, some), expected, (program, number, some))

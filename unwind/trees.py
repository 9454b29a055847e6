"""What a program tells, done by its statements themselves.

The way by which a statement or a block is left is None where it is left behind
it, else a tuple of a word ("leave", "next", "give", "fault") and a number.
"""

from unwind.programs import BOXES, DEEP, DEEPEST, NOUGHT, checked, reckoned


class Tired(Exception):
    """A turn is to be taken and none is left."""


class Fault(Exception):
    """A fault that comes out of an expression."""

    def __init__(self, number):
        self.number = number


class Run:
    """What all functions of a run have in common."""

    def __init__(self, program, turns):
        self.program = program
        self.turns = turns
        self.entered = 0
        self.said = []


def told(program, number, turns):
    """What was said, and how the run ended: by an answer, a fault, or tired."""
    checked(program)
    run = Run(program, turns)
    try:
        answer = _given_back(run, 0, number)
    except Fault as fault:
        return (run.said, "fault", fault.number)
    except Tired:
        return (run.said, "tired", 0)
    return (run.said, "answer", answer)


def _given_back(run, function, number):
    if run.entered == DEEPEST:
        raise Fault(DEEP)
    run.entered += 1
    way = _block(run, run.program[function], [number] + [0] * (BOXES - 1))
    run.entered -= 1
    if way is None:
        return 0
    word, worth = way
    if word == "fault":
        raise Fault(worth)
    return worth


def _take_turn(run):
    if run.turns < 1:
        raise Tired("no turn is left")
    run.turns -= 1


def _number(run, expression, boxes):
    word = expression[0]
    if word == "num":
        return expression[1]
    if word == "box":
        return boxes[expression[1]]
    if word == "call":
        handed = _number(run, expression[2], boxes)
        _take_turn(run)
        return _given_back(run, expression[1], handed)
    one = _number(run, expression[1], boxes)
    other = _number(run, expression[2], boxes)
    both = reckoned(word, one, other)
    if both is None:
        raise Fault(NOUGHT)
    return both


def _block(run, block, boxes):
    for statement in block:
        act = ACTS[statement[0]]
        try:
            way = act(run, statement, boxes)
        except Fault as fault:
            way = ("fault", fault.number)
        if way is not None:
            return way
    return None


def _set(run, statement, boxes):
    boxes[statement[1]] = _number(run, statement[2], boxes)


def _say(run, statement, boxes):
    run.said.append(_number(run, statement[1], boxes))


def _if(run, statement, boxes):
    _, asked, ones, others = statement
    if _number(run, asked, boxes) != 0:
        return _block(run, ones, boxes)
    return _block(run, others, boxes)


def _loop(run, statement, boxes):
    _, asked, body = statement
    _take_turn(run)
    while _number(run, asked, boxes) != 0:
        way = _block(run, body, boxes)
        if way is not None:
            word = way[0]
            if word == "leave":
                return None
            if word != "next":
                return way
        _take_turn(run)
    return None


def _leave(run, statement, boxes):
    return ("leave", 0)


def _next(run, statement, boxes):
    return ("next", 0)


def _give(run, statement, boxes):
    return ("give", _number(run, statement[1], boxes))


def _raise(run, statement, boxes):
    return ("fault", _number(run, statement[1], boxes))


def _catch(run, statement, boxes):
    _, body, wanted, box, hand = statement
    way = _block(run, body, boxes)
    if way is None:
        return None
    word, worth = way
    if word != "fault" or (wanted is not None and wanted != worth):
        return way
    boxes[box] = worth
    return _block(run, hand, boxes)


def _end(run, statement, boxes):
    _, body, last = statement
    way = _block(run, body, boxes)
    other = _block(run, last, boxes)
    return way if other is None else other


ACTS = {
    "set": _set,
    "say": _say,
    "if": _if,
    "loop": _loop,
    "leave": _leave,
    "next": _next,
    "give": _give,
    "raise": _raise,
    "catch": _catch,
    "end": _end,
}

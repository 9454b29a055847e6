"""What is made of a program for the machine.

The pile is empty between two statements. What has to outlast a statement, while
a block for the end is done, is kept in boxes beyond the program's own: a fault
that is caught within that block empties the pile.
"""

from unwind.programs import BOXES, checked


class Maker:
    """The rows and stretches made so far.

    Rows and goals name marks; the places of these are known when all is made.
    A row ("way", mark) becomes one that puts the mark's place on the pile.
    """

    def __init__(self):
        self.rows = []
        self.stretches = []
        self.places = []
        # One more than the program's own: a fault's number lies there while it is compared.
        self.boxes = BOXES + 1

    def mark(self):
        """A new mark."""
        self.places.append(None)
        return len(self.places) - 1

    def here(self, mark):
        """Let a mark mean the place of the next row."""
        self.places[mark] = len(self.rows)

    def make(self, *row):
        """Make one row."""
        self.rows.append(row)


class Around:
    """What is around a block: the marks to go to by its ways out, and how many ends.

    A number that is given back lies on the pile at the mark for it. leave and
    again (the loop's next turn) are None where no loop is around.
    """

    def __init__(self, give, leave, again, ends):
        self.give = give
        self.leave = leave
        self.again = again
        self.ends = ends


def made(program):
    """The rows, the stretches, the places at which functions begin, and how many boxes."""
    checked(program)
    maker = Maker()
    begins = []
    for block in program:
        begins.append(len(maker.rows))
        _function(maker, block)
    places = maker.places
    rows = [_placed(row, places) for row in maker.rows]
    stretches = [(first, behind, places[goal]) for first, behind, goal in maker.stretches]
    return (rows, stretches, begins, maker.boxes)


def _placed(row, places):
    word = row[0]
    if word == "way":
        return ("put", places[row[1]])
    if word in ("go", "nought"):
        return (word, places[row[1]])
    return row


def _function(maker, block):
    give = maker.mark()
    _block(maker, block, Around(give, None, None, 0))
    maker.make("put", 0)
    maker.here(give)
    maker.make("back")


def _expression(maker, expression):
    word = expression[0]
    if word == "num":
        maker.make("put", expression[1])
    elif word == "box":
        maker.make("get", expression[1])
    elif word == "call":
        _expression(maker, expression[2])
        maker.make("call", expression[1])
    else:
        _expression(maker, expression[1])
        _expression(maker, expression[2])
        maker.make(word)


def _block(maker, block, around):
    for statement in block:
        act = ACTS[statement[0]]
        act(maker, statement, around)


def _set(maker, statement, around):
    _expression(maker, statement[2])
    maker.make("set", statement[1])


def _say_or_raise(maker, statement, around):
    _expression(maker, statement[1])
    maker.make(statement[0])


def _if(maker, statement, around):
    _, asked, ones, others = statement
    otherwise = maker.mark()
    behind = maker.mark()
    _expression(maker, asked)
    maker.make("nought", otherwise)
    _block(maker, ones, around)
    maker.make("go", behind)
    maker.here(otherwise)
    _block(maker, others, around)
    maker.here(behind)


def _loop(maker, statement, around):
    _, asked, body = statement
    again = maker.mark()
    behind = maker.mark()
    maker.here(again)
    maker.make("turn")
    _expression(maker, asked)
    maker.make("nought", behind)
    _block(maker, body, Around(around.give, behind, again, around.ends))
    maker.make("go", again)
    maker.here(behind)


def _leave(maker, statement, around):
    maker.make("go", around.leave)


def _next(maker, statement, around):
    maker.make("go", around.again)


def _give(maker, statement, around):
    _expression(maker, statement[1])
    maker.make("go", around.give)


def _held(maker, block, around, goal):
    """A block whose faults go on at a goal. Stretches within it are ahead of its own."""
    first = len(maker.rows)
    _block(maker, block, around)
    behind = len(maker.rows)
    if first < behind:
        maker.stretches.append((first, behind, goal))


def _catch(maker, statement, around):
    _, body, wanted, box, hand = statement
    caught = maker.mark()
    behind = maker.mark()
    _held(maker, body, around, caught)
    maker.make("go", behind)
    maker.here(caught)
    if wanted is not None:
        _let_others_go_on(maker, wanted)
    maker.make("set", box)
    _block(maker, hand, around)
    maker.here(behind)


def _let_others_go_on(maker, wanted):
    """Raise the fault on the pile again, outside of its stretch, but for the wanted one."""
    same = maker.mark()
    maker.make("set", BOXES)
    maker.make("get", BOXES)
    maker.make("put", wanted)
    maker.make("sub")
    maker.make("nought", same)
    maker.make("get", BOXES)
    maker.make("raise")
    maker.here(same)
    maker.make("get", BOXES)


def _end(maker, statement, around):
    _, body, last = statement
    # An end within last must leave these two alone, so each depth of ends has its own.
    way = BOXES + 1 + 2 * around.ends
    worth = way + 1
    maker.boxes = max(maker.boxes, worth + 1)
    fault = maker.mark()
    start = maker.mark()
    behind = maker.mark()
    inner = _ways_to_last(maker, around)
    _held(maker, body, inner, fault)
    _go_to_last(maker, way, behind, start)
    if around.leave is not None:
        maker.here(inner.leave)
        _go_to_last(maker, way, around.leave, start)
        maker.here(inner.again)
        _go_to_last(maker, way, around.again, start)
    give_on = _bring_to_last(maker, inner.give, way, start)
    fault_on = _bring_to_last(maker, fault, way, start)
    maker.here(start)
    _block(maker, last, Around(around.give, around.leave, around.again, around.ends + 1))
    maker.make("on", way)
    maker.here(give_on)
    maker.make("get", worth)
    maker.make("go", around.give)
    maker.here(fault_on)
    maker.make("get", worth)
    maker.make("raise")
    maker.here(behind)


def _ways_to_last(maker, around):
    """What is around the body of an end: every way out of it leads to a mark of this end."""
    give = maker.mark()
    if around.leave is None:
        return Around(give, None, None, around.ends + 1)
    leave = maker.mark()
    again = maker.mark()
    return Around(give, leave, again, around.ends + 1)


def _go_to_last(maker, way, mark, start):
    """Keep in a box where to go on behind last, and go where last begins."""
    maker.make("way", mark)
    maker.make("set", way)
    maker.make("go", start)


def _bring_to_last(maker, mark, way, start):
    """Keep the number on the pile, too. Returns the mark where to go on with it."""
    go_on = maker.mark()
    maker.here(mark)
    maker.make("set", way + 1)
    _go_to_last(maker, way, go_on, start)
    return go_on


ACTS = {
    "set": _set,
    "say": _say_or_raise,
    "if": _if,
    "loop": _loop,
    "leave": _leave,
    "next": _next,
    "give": _give,
    "raise": _say_or_raise,
    "catch": _catch,
    "end": _end,
}

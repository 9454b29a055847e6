"""What a program may be, and what its arithmetic comes to."""

from unwind.errors import NoBox, NoFunction, NoLoop, TooDeep

BOXES = 4
DEEPEST = 8
NOUGHT = 101
DEEP = 102
MOST_BLOCKS = 8
MOST_PARTS = 6

# What stands behind the word of a statement or an expression, from left to right.
STATEMENTS = {
    "set": ("box", "expression"),
    "say": ("expression",),
    "if": ("expression", "block", "block"),
    "loop": ("expression", "block"),
    "leave": (),
    "next": (),
    "give": ("expression",),
    "raise": ("expression",),
    "catch": ("block", "number", "box", "block"),
    "end": ("block", "block"),
}
EXPRESSIONS = {
    "num": ("number",),
    "box": ("box",),
    "add": ("expression", "expression"),
    "sub": ("expression", "expression"),
    "less": ("expression", "expression"),
    "share": ("expression", "expression"),
    "call": ("function", "expression"),
}


def checked(program):
    """Refuse a program for the first that is wrong in it."""
    if not program:
        raise NoFunction("there is no function to begin")
    for block in program:
        _check_block(block, 1, False, len(program))


def _check_block(block, depth, looped, functions):
    if depth > MOST_BLOCKS:
        raise TooDeep(f"more than {MOST_BLOCKS} blocks within one another")
    for statement in block:
        _check_statement(statement, depth, looped, functions)


def _check_statement(statement, depth, looped, functions):
    word = statement[0]
    if word in ("leave", "next") and not looped:
        raise NoLoop(f"{word} stands in no loop")
    for kind, part in zip(STATEMENTS[word], statement[1:]):
        if kind == "box":
            _check_box(part)
        elif kind == "expression":
            _check_expression(part, 1, functions)
        elif kind == "block":
            _check_block(part, depth + 1, looped or word == "loop", functions)


def _check_expression(expression, depth, functions):
    if depth > MOST_PARTS:
        raise TooDeep(f"more than {MOST_PARTS} expressions within one another")
    for kind, part in zip(EXPRESSIONS[expression[0]], expression[1:]):
        if kind == "box":
            _check_box(part)
        elif kind == "function":
            _check_function(part, functions)
        elif kind == "expression":
            _check_expression(part, depth + 1, functions)


def _check_box(box):
    if not 0 <= box < BOXES:
        raise NoBox(f"a box's number is none of 0 to {BOXES - 1}")


def _check_function(function, functions):
    if not 0 <= function < functions:
        raise NoFunction("a function is called that is not there")


def reckoned(word, one, other):
    """What add, sub, less or share makes of two numbers; None where it shares by 0."""
    if word == "add":
        return one + other
    if word == "sub":
        return one - other
    if word == "less":
        return 1 if one < other else 0
    if other == 0:
        return None
    return one // other

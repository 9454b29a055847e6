"""Point 8: refusals, and the numbers of the interface."""

import copy
import unittest

from tests.helping import (GREAT, LEAVE, NEXT, ONE, ZERO, add, blocks_within, box, call, catch, end, give,
                           if_, less, loop, num, parts_within, say, share, sub)
from unwind import programs
from unwind.errors import MillError, NoBox, NoFunction, NoLoop, TooDeep
from unwind.making import made
from unwind.programs import checked
from unwind.trees import told

KINDS = (NoBox, NoFunction, NoLoop, TooDeep)
GREAT_ONES = (10 ** 30, 10 ** 4299, 10 ** 4300, GREAT, -GREAT, GREAT ** 4)
NO_BOX = ("say", box(4))
NO_FUNCTION = ("say", call(1))
TOO_MANY_PARTS = ("say", parts_within(7))
STATEMENTS_WITH = {
    "set": lambda e: ("set", 3, e),
    "say": lambda e: ("say", e),
    "if": lambda e: ("if", e, [], []),
    "loop": lambda e: ("loop", e, []),
    "give": lambda e: ("give", e),
    "raise": lambda e: ("raise", e),
}
BLOCKS_OF = {
    "ones": lambda block: if_(ZERO, block, []),
    "others": lambda block: if_(ZERO, [], block),
    "loop": lambda block: loop(ZERO, block),
    "body of a catch": lambda block: catch(block, None, 0, []),
    "hand": lambda block: catch([], 5, 0, block),
    "body of an end": lambda block: end(block, []),
    "last": lambda block: end([], block),
}


class Refusals(unittest.TestCase):
    def refused(self, program, kind):
        """checked, told and made refuse alike, and change nothing."""
        before = copy.deepcopy(program)
        for look in (checked, lambda p: told(p, 0, 0), made):
            with self.assertRaises(MillError) as caught:
                look(program)
            self.assertIsInstance(caught.exception, ValueError)
            self.assertEqual([k for k in KINDS if isinstance(caught.exception, k)], [kind])
        self.assertEqual(program, before)

    def fine(self, program):
        self.assertIsNone(checked(program))
        made(program)
        told(program, 0, 0)


class NumbersTest(unittest.TestCase):
    def test_the_numbers_of_the_points(self):
        self.assertEqual((programs.BOXES, programs.DEEPEST, programs.NOUGHT, programs.DEEP,
                          programs.MOST_BLOCKS, programs.MOST_PARTS), (4, 8, 101, 102, 8, 6))


class BoxesTest(Refusals):
    def test_boxes_from_0_to_3_are_there(self):
        for k in (0, 3):
            self.fine([[("set", k, box(k)), catch([], None, k, [])]])

    def test_other_boxes_are_not(self):
        for k in (-1, 4, -4) + GREAT_ONES:
            self.refused([[("set", k, ONE)]], NoBox)
            self.refused([[catch([], None, k, [])]], NoBox)
            for word, made_with in STATEMENTS_WITH.items():
                with self.subTest(word):
                    self.refused([[made_with(box(k))]], NoBox)

    def test_within_expressions(self):
        for joined in (add, sub, less, share):
            self.refused([[("say", joined(box(4), ONE))]], NoBox)
            self.refused([[("say", joined(ONE, box(-1)))]], NoBox)
            self.refused([[("say", joined(ONE, box(GREAT)))]], NoBox)
        self.refused([[("say", call(0, box(4)))]], NoBox)
        self.refused([[("say", call(0, box(GREAT)))]], NoBox)

    def test_within_all_blocks(self):
        for name, within in BLOCKS_OF.items():
            with self.subTest(name):
                self.refused([[within([NO_BOX])]], NoBox)

    def test_in_rows_that_nobody_comes_to(self):
        self.refused([[give(0), NO_BOX]], NoBox)
        self.refused([[], [NO_BOX]], NoBox)


class FunctionsTest(Refusals):
    def test_a_program_without_functions(self):
        self.refused([], NoFunction)

    def test_the_last_function_and_one_beyond_it(self):
        self.fine([[("say", call(1))], []])
        self.fine([[("say", call(0))]])
        self.refused([[("say", call(2))], []], NoFunction)
        self.refused([[], [("say", call(2))]], NoFunction)
        self.refused([[("say", call(-1))], []], NoFunction)

    def test_functions_of_great_numbers(self):
        for f in GREAT_ONES:
            self.refused([[("say", call(f))], []], NoFunction)
            for word, made_with in STATEMENTS_WITH.items():
                with self.subTest(word):
                    self.refused([[made_with(call(f))]], NoFunction)
            for joined in (add, sub, less, share):
                self.refused([[("say", joined(ONE, call(f)))]], NoFunction)
            self.refused([[("say", call(0, call(f)))]], NoFunction)

    def test_everywhere(self):
        for word, made_with in STATEMENTS_WITH.items():
            with self.subTest(word):
                self.refused([[made_with(call(1))]], NoFunction)
        for joined in (add, sub, less, share):
            self.refused([[("say", joined(call(1), ONE))]], NoFunction)
            self.refused([[("say", joined(ONE, call(1)))]], NoFunction)
        self.refused([[("say", call(0, call(1)))]], NoFunction)
        for name, within in BLOCKS_OF.items():
            with self.subTest(name):
                self.refused([[within([NO_FUNCTION])]], NoFunction)


class LoopsTest(Refusals):
    def test_in_a_loop(self):
        for way in (LEAVE, NEXT):
            self.fine([[loop(ZERO, [way])]])

    def test_in_no_loop(self):
        for way in (LEAVE, NEXT):
            self.refused([[way]], NoLoop)
            self.refused([[say(1)], [way]], NoLoop)

    def test_behind_and_ahead_of_a_loop(self):
        for way in (LEAVE, NEXT):
            self.refused([[loop(ZERO, []), way]], NoLoop)
            self.refused([[way, loop(ZERO, [])]], NoLoop)

    def test_the_loop_of_another_function_does_not_count(self):
        for way in (LEAVE, NEXT):
            self.refused([[loop(ZERO, [("say", call(1))])], [way]], NoLoop)

    def test_in_the_blocks_of_others(self):
        for way in (LEAVE, NEXT):
            for name, within in BLOCKS_OF.items():
                with self.subTest(name, way=way):
                    self.fine([[loop(ZERO, [within([way])])]])
                    if name != "loop":
                        self.refused([[within([way])]], NoLoop)
                        self.refused([[within([loop(ZERO, []), way])]], NoLoop)
                        self.refused([[loop(ZERO, [within([])]), within([way])]], NoLoop)

    def test_behind_a_loop_within_a_loop(self):
        self.fine([[loop(ZERO, [loop(ZERO, []), LEAVE, NEXT])]])


class DepthsTest(Refusals):
    def test_eight_blocks_and_a_ninth(self):
        for way in ("if", "else", "loop", "body", "hand", "begun", "last"):
            with self.subTest(way):
                self.fine([blocks_within(8, way)])
                self.refused([blocks_within(9, way)], TooDeep)
                self.refused([[], blocks_within(9, way)], TooDeep)
                self.refused([blocks_within(60, way)], TooDeep)

    def test_blocks_are_not_counted_over_functions_or_neighbours(self):
        self.fine([blocks_within(8), blocks_within(8)])
        self.fine([blocks_within(8) + blocks_within(8, "last")])

    def test_the_same_number_of_blocks_in_one_another_of_several_kinds(self):
        within = list(BLOCKS_OF.values())
        block = []
        for wrap in within:
            block = [wrap(block)]
        self.fine([block])
        self.refused([[end(block, [])]], TooDeep)

    def test_six_expressions_and_a_seventh(self):
        for left in (True, False):
            for word, made_with in STATEMENTS_WITH.items():
                with self.subTest(word, left=left):
                    self.fine([[made_with(parts_within(6, left))]])
                    self.refused([[made_with(parts_within(7, left))]], TooDeep)
                    self.refused([[made_with(parts_within(60, left))]], TooDeep)

    def test_all_kinds_of_expressions_count(self):
        for joined in (add, sub, less, share, lambda one, _: call(0, one)):
            self.fine([[("say", joined(parts_within(5), ONE))]])
            self.refused([[("say", joined(parts_within(6), ONE))]], TooDeep)
        for innermost in (num(3), box(3), call(0, ONE)):
            depth = 6 if innermost[0] != "call" else 5
            self.fine([[("say", parts_within(depth, True, innermost))]])
            self.refused([[("say", parts_within(depth + 1, True, innermost))]], TooDeep)

    def test_expressions_are_not_counted_over_blocks(self):
        block = [("say", parts_within(6))]
        for _ in range(7):
            block = [if_(parts_within(6), block, [])]
        self.fine([block])


class GreatNumbersTest(Refusals):
    def test_numbers_that_name_nothing_may_be_great(self):
        for n in GREAT_ONES:
            self.fine([[("say", num(n)), catch([], n, 0, [])]])

    def test_what_stands_around_great_numbers_is_refused_alike(self):
        great = ("say", num(GREAT))
        self.refused([[great, LEAVE]], NoLoop)
        self.refused([[great], blocks_within(9)], TooDeep)
        self.refused([[("say", parts_within(7, True, num(GREAT)))]], TooDeep)
        self.refused([[("say", parts_within(7, True, box(GREAT)))]], TooDeep)
        self.refused([[("set", GREAT, call(GREAT))]], NoBox)
        self.refused([[("set", 0, call(GREAT, box(GREAT)))]], NoFunction)


class FirstOneCountsTest(Refusals):
    def test_functions_from_the_first_on(self):
        self.refused([[NO_BOX], [LEAVE]], NoBox)
        self.refused([[LEAVE], [NO_BOX]], NoLoop)

    def test_statements_from_the_first_on(self):
        wrong = {NoBox: NO_BOX, NoFunction: NO_FUNCTION, NoLoop: LEAVE, TooDeep: TOO_MANY_PARTS}
        for kind, one in wrong.items():
            for other in wrong.values():
                self.refused([[one, other]], kind)
                self.refused([[if_(ONE, [say(1), one], []), other]], kind)

    def test_parts_from_left_to_right(self):
        missing, away, deep = box(4), call(1), parts_within(6)
        for joined in (add, sub, less, share):
            self.refused([[("say", joined(missing, away))]], NoBox)
            self.refused([[("say", joined(away, missing))]], NoFunction)
            self.refused([[("say", joined(missing, deep))]], NoBox)
            self.refused([[("say", joined(deep, missing))]], TooDeep)
        self.refused([[("say", call(1, missing))]], NoFunction)
        self.refused([[("say", call(0, add(missing, away)))]], NoBox)

    def test_set_names_its_box_first(self):
        self.refused([[("set", 4, call(1))]], NoBox)
        self.refused([[("set", 4, parts_within(7))]], NoBox)
        self.refused([[("set", 0, call(1)), ("set", 4, ONE)]], NoFunction)

    def test_if_and_loop(self):
        self.refused([[("if", box(4), [LEAVE], [NO_FUNCTION])]], NoBox)
        self.refused([[("if", ONE, [LEAVE], [NO_FUNCTION])]], NoLoop)
        self.refused([[("if", ONE, [NO_FUNCTION], [LEAVE])]], NoFunction)
        self.refused([[("loop", call(1), [NO_BOX])]], NoFunction)
        self.refused([[("loop", ONE, [NO_BOX]), NO_FUNCTION]], NoBox)

    def test_catch_names_its_box_between_body_and_hand(self):
        self.refused([[catch([LEAVE], None, 4, [NO_FUNCTION])]], NoLoop)
        self.refused([[catch([NO_FUNCTION], 3, -1, [])]], NoFunction)
        self.refused([[catch([], None, 4, [NO_FUNCTION])]], NoBox)
        self.refused([[catch([], None, 0, [NO_FUNCTION, LEAVE])]], NoFunction)

    def test_end(self):
        self.refused([[end([NO_BOX], [LEAVE])]], NoBox)
        self.refused([[end([LEAVE], [NO_BOX])]], NoLoop)

    def test_too_deep_is_looked_at_ahead_of_what_stands_in_it(self):
        for word in (box(4), call(1), call(1, box(4))):
            self.refused([[("say", parts_within(7, True, word))]], TooDeep)
        self.refused([[("say", parts_within(6, True, box(4)))]], NoBox)
        for wrong in (NO_BOX, NO_FUNCTION, LEAVE):
            block = [wrong]
            for _ in range(8):
                block = [end(block, [])]
            self.refused([block], TooDeep)
        block = [LEAVE]
        for _ in range(7):
            block = [end(block, [NO_BOX])]
        self.refused([block], NoLoop)

    def test_what_stands_ahead_of_the_ninth_block(self):
        eighth = [("if", box(4), [], [])]
        self.refused([self.within(eighth)], NoBox)
        self.refused([self.within([catch([], None, 4, [])])], TooDeep)
        self.refused([self.within([NO_FUNCTION, end([], [])])], NoFunction)
        self.refused([self.within([end([], []), NO_FUNCTION])], TooDeep)

    def within(self, block):
        for _ in range(7):
            block = [if_(ONE, block, [])]
        return block


if __name__ == "__main__":
    unittest.main()

"""Points 10 and 12: what is made of a program."""

import copy
import unittest

from tests.helping import (GREAT, LEAVE, NEXT, NOUGHT_SHARE, ONE, ZERO, Growing, Telling, add, blocks_within, box, call,
                           catch, chatty, end, give, if_, loop, num, parts_within, put, say, say_box, sub, throw)
from unwind.machine import run
from unwind.making import made
from unwind.trees import told

NUMBERED = {"put", "get", "set", "go", "nought", "on", "call"}
BARE = {"say", "add", "sub", "less", "share", "turn", "back", "raise"}
SOME = 400
PROGRAMS = [
    [[]],
    [[], [], []],
    [[catch([], None, 0, []), catch([], 3, 3, [say(1)])]],
    [[catch([if_(ONE, [], [])], None, 0, [])]],
    [[catch([catch([catch([throw(1)], 1, 0, [])], None, 0, [])], 4, 0, [])]],
    [[end([], []), end([end([], [])], [end([], [])])]],
    [[end([end([end([give(1)], [])], [])], [])]],
    [[catch([end([catch([throw(3)], 4, 0, [])], [])], None, 0, [end([], [catch([throw(1)], None, 0, [])])])]],
    [[loop(ZERO, [end([LEAVE], [NEXT]), catch([NEXT], 5, 1, [LEAVE])])]],
    [[loop(ONE, [end([end([NEXT], [])], [])])]],
    [chatty(4), chatty(5), [("give", call(2, call(1)))]],
    [[("say", parts_within(6)), ("say", parts_within(6, False))]],
] + [[blocks_within(8, way)] for way in ("if", "else", "loop", "body", "hand", "begun", "last")]


class ShapeTest(unittest.TestCase):
    def shape(self, program):
        before = copy.deepcopy(program)
        parts = made(program)
        self.assertEqual(program, before)
        self.assertIs(type(parts), tuple)
        rows, stretches, begins, boxes = parts
        self.assertEqual([type(part) for part in parts], [list, list, list, int])
        self.assertEqual(len(begins), len(program))
        for begin in begins:
            self.assertIn(begin, range(len(rows)))
        for row in rows:
            self.row(row, len(rows), boxes, len(begins))
        self.stretches(stretches, len(rows))
        return parts

    def row(self, row, places, boxes, functions):
        self.assertIs(type(row), tuple)
        word = row[0]
        if word in BARE:
            self.assertEqual(row, (word,))
            return
        self.assertIn(word, NUMBERED)
        self.assertEqual([type(part) for part in row], [str, int])
        if word in ("go", "nought"):
            self.assertIn(row[1], range(places))
        elif word in ("get", "set", "on"):
            self.assertIn(row[1], range(boxes))
        elif word == "call":
            self.assertIn(row[1], range(functions))

    def stretches(self, stretches, places):
        for stretch in stretches:
            self.assertIs(type(stretch), tuple)
            first, behind, goal = stretch
            self.assertIn(first, range(places))
            self.assertIn(behind, range(places + 1))
            self.assertLessEqual(first, behind)
            self.assertIn(goal, range(places))
            self.assertNotIn(goal, range(first, behind))
        for at, (first, behind, _) in enumerate(stretches):
            for later, later_behind, _ in stretches[at + 1:]:
                apart = behind <= later or later_behind <= first
                within = later <= first and behind <= later_behind
                self.assertTrue(apart or within, stretches)
                # The same places twice would be within one another in both orders.
                self.assertNotEqual((first, behind), (later, later_behind))

    def pile(self, parts):
        """No row takes more off the pile than lies there, and each place has one height."""
        rows, stretches, begins, _ = parts
        heights = {}
        todo = [(begin, 0) for begin in begins] + [(goal, 1) for _, _, goal in stretches]
        # A way that is put in a box is gone on with where nothing lies on the pile.
        todo += [(row[1], 0) for at, row in enumerate(rows[:-1])
                 if row[0] == "put" and rows[at + 1][0] == "set" and rows[at + 1][1] > 3]
        takes = {"say": 1, "set": 1, "add": 2, "sub": 2, "less": 2, "share": 2, "nought": 1, "call": 1, "back": 1,
                 "raise": 1}
        gives = {"put": 1, "get": 1, "add": 1, "sub": 1, "less": 1, "share": 1, "call": 1}
        while todo:
            at, height = todo.pop()
            if at in heights:
                self.assertEqual(heights[at], height)
                continue
            heights[at] = height
            word = rows[at][0]
            height -= takes.get(word, 0)
            self.assertGreaterEqual(height, 0, (at, rows))
            height += gives.get(word, 0)
            if word in ("go", "nought"):
                todo.append((rows[at][1], height))
            if word == "on":
                self.assertEqual(height, 0)
            if word not in ("go", "on", "back", "raise"):
                todo.append((at + 1, height))

    def test_of_programs_written_by_hand(self):
        for program in PROGRAMS:
            with self.subTest(program):
                self.pile(self.shape(program))

    def test_of_grown_programs(self):
        for seed in range(SOME):
            self.pile(self.shape(Growing(seed).program()))

    def test_of_the_longest_ways(self):
        block = [NEXT, LEAVE]
        for n in range(6):
            block = [end(block, [end([give(n)], [])] if n > 1 else [])]
        self.pile(self.shape([[loop(ZERO, block)]]))

    def test_the_size_grows_with_the_program(self):
        # A last is done for many ways, but stands in the code once.
        def block(depth):
            return [end(block(depth - 1), block(depth - 1))] if depth else [say(1)]
        sizes = [len(made([block(depth)])[0]) for depth in range(8)]
        for one, other in zip(sizes, sizes[1:]):
            self.assertLess(other, 2 * one + 40)

    def test_two_makings_share_nothing(self):
        program = [[end([throw(1)], [])]]
        one = made(program)
        other = made(program)
        self.assertEqual(one, other)
        for part in one[:3]:
            part.clear()
        self.assertEqual(made(program), other)


class SameTest(Telling):
    def test_of_programs_written_by_hand(self):
        for program in PROGRAMS:
            self.all_alike(program, [0, 1, -1], [0, 1, 2, 9])

    def test_of_grown_programs(self):
        for seed in range(SOME):
            self.all_alike(Growing(seed).program(), [0, 3], [0, 1, 2, 3, 5, 8, 21])

    def test_of_grown_programs_as_deep_as_may_be(self):
        for seed in range(40):
            program = Growing(seed, 8).program()
            parts = made(program)
            for turns in (0, 1, 2, 4, 10, 40):
                self.assertEqual(run(parts, 3, turns), told(program, 3, turns), (seed, turns))

    def test_of_grown_programs_with_huge_numbers(self):
        for seed in range(SOME, SOME + 40):
            self.all_alike(Growing(seed).program(), [10 ** 50, -10 ** 50], [30])

    def test_of_grown_programs_with_numbers_too_great_for_strings(self):
        for seed in range(SOME, SOME + 40):
            self.all_alike(Growing(seed, great=True).program(), [GREAT, -GREAT], [0, 30])

    def test_at_every_number_of_turns(self):
        block = [("set", 1, add(box(1), ONE)), end([("say", call(1, box(1)))], [("set", 2, call(1, num(5)))])]
        program = [[catch([loop(sub(box(0), box(1)), block)], None, 3, [say_box(3)])],
                   [if_(sub(box(0), num(3)), [("give", box(0))], [catch([throw(4)], 4, 1, [("raise", box(0))])])]]
        self.all_alike(program, [0, 1, 2, 3, 4, 5], range(20))

    def test_boxes_of_the_program_are_its_own(self):
        # What the code keeps aside is not seen in the four boxes.
        look = [say_box(k) for k in range(4)]
        for inner in ([], [throw(7)], [("say", NOUGHT_SHARE)]):
            program = [[put(k, 60 + k) for k in range(1, 4)] +
                       [catch([end([catch(inner, 8, 0, [])], look)], None, 0, look)] + look]
            self.all_alike(program, [5], [0])

    def test_what_is_made_runs_again_and_again(self):
        program = [[end([("say", call(1, box(0)))], [say(2)])], [throw(9)]]
        parts = made(program)
        before = copy.deepcopy(parts)
        for number in (1, 2):
            self.assertEqual(run(parts, number, 5), told(program, number, 5))
        self.assertEqual(parts, before)


if __name__ == "__main__":
    unittest.main()

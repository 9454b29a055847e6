"""Points 9 and 11: the machine does code that was written by hand."""

import copy
import unittest

from tests.helping import GREAT
from unwind.machine import goal_of, run

SAY = ("say",)
BACK = ("back",)
ADD = ("add",)
RAISE = ("raise",)
TURN = ("turn",)
SHARE = ("share",)


def say(n):
    return [("put", n), SAY]


def give(n):
    return [("put", n), BACK]


class Machines(unittest.TestCase):
    def tells(self, rows, expected, stretches=(), begins=(0,), boxes=4, number=0, turns=100):
        parts = (list(rows), list(stretches), list(begins), boxes)
        before = copy.deepcopy(parts)
        self.assertEqual(run(parts, number, turns), expected)
        self.assertEqual(parts, before)

    def answers(self, rows, said, answer=0, **others):
        self.tells(rows, (said, "answer", answer), **others)

    def faults(self, rows, said, fault, **others):
        self.tells(rows, (said, "fault", fault), **others)

    def tires(self, rows, said, turns, **others):
        self.tells(rows, (said, "tired", 0), turns=turns, **others)


class GoalTest(unittest.TestCase):
    def test_no_stretches(self):
        self.assertIsNone(goal_of([], 0))

    def test_its_edges(self):
        self.assertIsNone(goal_of([(2, 4, 9)], 1))
        self.assertEqual(goal_of([(2, 4, 9)], 2), 9)
        self.assertEqual(goal_of([(2, 4, 9)], 3), 9)
        self.assertIsNone(goal_of([(2, 4, 9)], 4))

    def test_the_first_in_the_list(self):
        self.assertEqual(goal_of([(2, 4, 9), (0, 6, 8)], 3), 9)
        self.assertEqual(goal_of([(0, 6, 8), (2, 4, 9)], 3), 8)
        self.assertEqual(goal_of([(2, 4, 9), (0, 6, 8)], 4), 8)
        self.assertEqual(goal_of([(0, 3, 8), (2, 6, 9)], 2), 8)

    def test_an_empty_one_holds_nothing(self):
        self.assertIsNone(goal_of([(3, 3, 9)], 3))
        self.assertEqual(goal_of([(3, 3, 9), (3, 4, 8)], 3), 8)
        self.assertIsNone(goal_of([(4, 3, 9)], 3))

    def test_place_nought_and_goal_nought(self):
        self.assertEqual(goal_of([(0, 1, 0)], 0), 0)
        self.assertEqual(goal_of([(0, 1, 0), (0, 1, 5)], 0), 0)

    def test_nothing_is_changed(self):
        stretches = [(2, 4, 9), (0, 6, 8)]
        goal_of(stretches, 5)
        self.assertEqual(stretches, [(2, 4, 9), (0, 6, 8)])


class RowsTest(Machines):
    def test_what_is_told(self):
        told = run((give(3), [], [0], 1), 0, 0)
        self.assertEqual(told, ([], "answer", 3))
        self.assertIs(type(told), tuple)
        self.assertIs(type(told[0]), list)

    def test_put_and_say(self):
        self.answers([("put", -5), ("put", 10 ** 40), SAY, SAY] + give(1), [10 ** 40, -5], 1)

    def test_boxes(self):
        self.answers([("get", k) for k in range(3)] + [SAY] * 3 + give(0), [0, 0, 8], number=8, boxes=3)
        self.answers([("put", 5), ("set", 2), ("put", 6), ("set", 0), ("get", 2), SAY, ("get", 0), BACK], [5], 6)

    def test_as_many_boxes_as_told(self):
        self.answers([("put", 5), ("set", 99), ("get", 99), BACK], [], 5, boxes=100)
        self.answers([("get", 0), BACK], [], 5, boxes=1, number=5)
        self.answers(give(4), [], 4, boxes=0, number=5)

    def test_the_upper_one_is_the_right_one(self):
        for word, one, other, expected in (("add", 7, 2, 9), ("sub", 7, 2, 5), ("sub", 2, 7, -5), ("less", 2, 7, 1),
                                           ("less", 7, 2, 0), ("less", 2, 2, 0), ("share", 7, 2, 3),
                                           ("share", -7, 2, -4), ("share", 7, -2, -4), ("share", -7, -2, 3),
                                           ("share", 0, 7, 0), ("add", 10 ** 40, 1, 10 ** 40 + 1)):
            with self.subTest(word, one=one, other=other):
                self.answers([("put", 33), ("put", one), ("put", other), (word,), SAY, BACK], [expected], 33)

    def test_great_numbers(self):
        for n in (GREAT, -GREAT):
            self.answers([("put", n), ("set", 1), ("get", 1), SAY, ("get", 0), BACK], [n], n + 1, number=n + 1)
            self.answers([("put", n), ("nought", 0), ("put", n), ("put", n), ADD, BACK], [], 2 * n)
            self.faults([("put", n), ("put", 0), SHARE], [], 101)
            self.faults([("put", n), RAISE], [], n)
            self.answers([("put", n), RAISE, SAY] + give(n), [n], n, stretches=[(0, 2, 2)])
            self.answers([("put", n), ("call", 1), SAY] + give(0) + [("get", 0), BACK], [n], begins=[0, 5])
            self.assertIsNone(goal_of([(0, 6, 8)], n))

    def test_share_by_nought(self):
        self.faults([("put", 1), ("put", 0), SHARE] + give(1), [], 101)
        self.faults([("put", 0), ("put", 0), SHARE] + give(1), [], 101)

    def test_go_ahead_and_back(self):
        self.answers([("go", 3)] + give(5) + [("go", 1)], [], 5)

    def test_nought(self):
        rows = [("get", 0), ("nought", 4)] + give(1) + give(2)
        self.answers(rows, [], 2, number=0)
        self.answers(rows, [], 1, number=1)
        self.answers(rows, [], 1, number=-1)

    def test_nought_takes_the_top_one_off(self):
        for n in (0, 1):
            self.answers([("put", 7), ("put", n), ("nought", 3), BACK], [], 7)

    def test_nought_back(self):
        self.answers([("get", 0), SAY, ("get", 0), ("put", 1), ADD, ("set", 0), ("get", 0), ("put", 3), ("less",),
                      ("put", 1), ("sub",), ("nought", 0)] + give(9), [0, 1, 2], 9)

    def test_on(self):
        rows = [("on", 0)] + give(1) + give(3) + give(5)
        for place in (1, 3, 5):
            self.answers(rows, [], place, number=place)

    def test_on_with_a_reckoned_place(self):
        self.answers([("put", 4), ("put", 3), ADD, ("set", 1), ("on", 1)] + give(1) + give(2), [], 2)

    def test_on_goes_back_by_a_place_in_a_box(self):
        # A row of code that is done twice, and then goes on where the box tells.
        rows = [("put", 3), ("set", 1), ("go", 6), ("put", 9), ("set", 1), ("go", 6)] + say(4) + [("on", 1)] + give(8)
        self.answers(rows, [4, 4], 8)

    def test_rows_that_nobody_comes_to(self):
        self.answers([("go", 2), RAISE] + give(2) + [SAY, ADD, ("on", 0), ("go", 0)], [], 2)

    def test_no_rows_are_changed_into_others(self):
        rows = say(1) + give(2)
        parts = (rows, [], [0], 1)
        self.assertEqual(run(parts, 0, 0), run(parts, 0, 0))


class TurnsTest(Machines):
    def test_turn(self):
        rows = say(1) + [TURN] + say(2) + [TURN] + give(3)
        self.tires(rows, [1], 0)
        self.tires(rows, [1, 2], 1)
        self.answers(rows, [1, 2], 3, turns=2)
        self.answers(rows, [1, 2], 3, turns=10 ** 40)

    def test_rows_take_none_by_themselves(self):
        self.answers([("go", 1), ("put", 0), ("nought", 3), ("put", 4), ("set", 0), ("get", 0), BACK], [], 4, turns=0)

    def test_an_endless_loop(self):
        self.tires([TURN] + say(1) + [("go", 0)], [1] * 5, 5)

    def test_a_call_takes_one(self):
        rows = [("put", 5), ("call", 1), SAY, ("put", 6), ("call", 1), BACK, ("get", 0), SAY, ("get", 0), BACK]
        self.tires(rows, [], 0, begins=[0, 6])
        self.tires(rows, [5, 5], 1, begins=[0, 6])
        self.answers(rows, [5, 5, 6], 6, turns=2, begins=[0, 6])

    def test_no_stretch_holds_a_tired_one(self):
        self.tires([TURN] + say(1) + give(2), [], 0, stretches=[(0, 5, 1)])
        self.tires([("put", 1), ("call", 0)] + give(2), [], 0, stretches=[(0, 4, 2)])
        self.tires([("put", 1), ("call", 1)] + give(2) + [TURN], [], 1, stretches=[(0, 2, 2)], begins=[0, 4])


class CallsTest(Machines):
    def test_the_pile_of_the_caller_stays(self):
        rows = [("put", 1), ("put", 2), ("put", 3), ("call", 1), ADD, ADD, BACK, ("get", 0), ("get", 0), ADD, BACK]
        self.answers(rows, [], 9, begins=[0, 7])

    def test_the_pile_of_the_called_is_its_own(self):
        rows = [("put", 1), ("put", 2), ("call", 1), SAY, BACK, ("put", 50), ("put", 60), ("put", 70), BACK]
        self.answers(rows, [70], 1, begins=[0, 5])

    def test_boxes_of_its_own(self):
        rows = [("put", 5), ("set", 1), ("put", 7), ("call", 1), SAY, ("get", 1), SAY, ("get", 0), BACK,
                ("get", 0), SAY, ("put", 9), ("set", 0), ("put", 9), ("set", 2), ("get", 1), BACK]
        self.answers(rows, [7, 0, 5], 3, number=3, begins=[0, 9])

    def test_functions_in_any_order(self):
        rows = give(30) + [("get", 0), ("put", 1), ADD, BACK] + [("put", 4), ("call", 2), SAY, ("put", 0), ("call", 1),
                                                                   BACK]
        self.answers(rows, [5], 30, begins=[6, 0, 2])

    def test_two_functions_that_begin_at_one_place(self):
        rows = [("get", 0), ("nought", 6), ("put", 0), ("call", 1), SAY, ("go", 6)] + give(3)
        self.answers(rows, [3], 3, begins=[0, 0], number=1)

    def test_a_function_begins_within_another(self):
        rows = [("put", 1), ("call", 1), SAY] + give(4)
        self.answers(rows, [4], 4, begins=[0, 3])

    def test_code_of_another_function_may_be_gone_to(self):
        rows = [("put", 7), ("call", 1), BACK, ("go", 5), RAISE, ("get", 0), SAY] + give(6)
        self.answers(rows, [7], 6, begins=[0, 3])
        self.answers([("go", 3), ("put", 1), BACK, ("get", 0), BACK], [], 8, number=8, begins=[0, 3])

    def test_a_ninth(self):
        rows = [("get", 0), SAY, ("get", 0), ("nought", 8), ("get", 0), ("put", 1), ("sub",), ("call", 0)] + give(6)
        self.answers(rows, [7, 6, 5, 4, 3, 2, 1, 0], 6, number=7)
        self.faults(rows, [8, 7, 6, 5, 4, 3, 2, 1], 102, number=8)
        self.faults(rows, [8, 7, 6, 5, 4, 3, 2, 1], 102, number=8, turns=8)
        self.tires(rows, [8, 7, 6, 5, 4, 3, 2, 1], 7, number=8)

    def test_a_ninth_is_held_at_the_place_of_its_call(self):
        rows = [("get", 0), ("put", 1), ADD, ("call", 0), BACK, SAY] + [("get", 0), BACK]
        self.answers(rows, [102], 7, stretches=[(3, 4, 5)])
        self.faults(rows, [], 102, stretches=[(2, 3, 5), (4, 5, 5)])

    def test_left_functions_do_not_count(self):
        rows = [("put", 20), ("set", 1), ("get", 1), ("nought", 12), ("put", 0), ("call", 1), ("set", 2), ("get", 1),
                ("put", 1), ("sub",), ("set", 1), ("go", 2)] + give(5)
        self.answers(rows, [], 5, begins=[0, 12])
        self.answers(rows + [("put", 9), RAISE], [], 5, begins=[0, 14], stretches=[(5, 6, 6)])


class FaultsTest(Machines):
    def test_none_that_holds_it(self):
        self.faults(say(1) + [("put", 6), RAISE] + say(2), [1], 6)
        self.faults([("put", -6), RAISE], [], -6, stretches=[(0, 1, 0), (1, 1, 0)])

    def test_a_goal(self):
        rows = [("put", 6), RAISE] + give(1) + [SAY] + give(2)
        self.answers(rows, [6], 2, stretches=[(0, 2, 4)])
        self.answers(rows, [6], 2, stretches=[(1, 2, 4)])
        self.faults(rows, [], 6, stretches=[(0, 1, 4), (2, 7, 4)])

    def test_a_goal_ahead(self):
        rows = [("go", 3), SAY, ("go", 5), ("put", 6), RAISE] + give(2)
        self.answers(rows, [6], 2, stretches=[(3, 5, 1)])

    def test_a_goal_at_nought(self):
        rows = [("get", 0), ("nought", 4), SAY, ("go", 8), ("put", 1), ("set", 0), ("put", 6), RAISE] + give(2)
        self.answers(rows, [6], 2, stretches=[(6, 8, 0)])

    def test_the_first_stretch_in_the_list(self):
        rows = [("put", 6), RAISE] + give(1) + give(2)
        self.answers(rows, [], 1, stretches=[(0, 2, 2), (1, 2, 4)])
        self.answers(rows, [], 2, stretches=[(1, 2, 4), (0, 2, 2)])
        self.answers(rows, [], 2, stretches=[(1, 1, 2), (0, 2, 4)])
        self.answers(rows, [], 2, stretches=[(0, 1, 2), (2, 6, 2), (1, 4, 4), (0, 6, 2)])

    def test_the_number_is_laid_on_the_pile(self):
        rows = [("put", 50), ("put", 40), ("put", 6), RAISE, ("set", 1), ("get", 1), ("get", 1), ADD, BACK]
        self.answers(rows, [], 12, stretches=[(3, 4, 4)])
        rows = [("put", 50), ("put", 1), ("put", 0), SHARE, ("put", 7), ("sub",), BACK]
        self.answers(rows, [], 94, stretches=[(3, 4, 4)])

    def test_the_pile_is_emptied(self):
        # Code that keeps to the rules can't see it, so this one takes more than must lie there.
        for rows in ([("put", 50), ("put", 6), RAISE, SAY, BACK],
                     [("put", 50), ("put", 1), ("put", 0), SHARE, ADD, BACK]):
            at = len(rows) - 3
            with self.assertRaises(IndexError):
                run((rows, [(at, at + 1, at + 1)], [0], 1), 0, 0)

    def test_share_in_a_stretch(self):
        rows = [("put", 1), ("put", 0), SHARE, BACK]
        self.answers(rows, [], 101, stretches=[(2, 3, 3)])
        self.faults(rows, [], 101, stretches=[(0, 2, 3), (3, 4, 3)])

    def test_boxes_stay(self):
        rows = [("put", 9), ("set", 2), ("put", 6), RAISE, SAY, ("get", 2), BACK]
        self.answers(rows, [6], 9, stretches=[(0, 4, 4)])

    def test_out_of_a_call(self):
        rows = [("put", 0), ("call", 1)] + give(1) + [SAY] + give(2) + [("put", 6), RAISE]
        self.answers(rows, [6], 2, begins=[0, 7], stretches=[(1, 2, 4)])
        self.faults(rows, [], 6, begins=[0, 7], stretches=[(0, 1, 4), (2, 4, 4)])

    def test_out_of_a_call_empties_the_pile_of_the_caller(self):
        rows = [("put", 50), ("put", 0), ("call", 1), ("put", 1), ("sub",), BACK, ("put", 6), RAISE]
        self.answers(rows, [], 5, begins=[0, 6], stretches=[(2, 3, 3)])

    def test_a_stretch_that_holds_the_called_function_too(self):
        # The function's own place is looked for first; its goal is done in the function.
        rows = [("put", 3), ("call", 1), SAY] + give(1) + [("put", 6), RAISE, SAY, ("get", 0), BACK]
        self.answers(rows, [6, 3], 1, begins=[0, 5], stretches=[(0, 7, 7)])

    def test_out_of_several_functions(self):
        rows = [("put", 1), ("call", 1), BACK, ("put", 2), ("call", 2), BACK, ("put", 8), RAISE, SAY, ("get", 0), BACK]
        for number, stretches, answer in ((7, [(1, 2, 8)], 7), (7, [(4, 5, 8)], 1), (7, [(7, 8, 8)], 2),
                                          (7, [(1, 2, 8), (4, 5, 8)], 1), (7, [(0, 8, 8)], 2)):
            with self.subTest(stretches):
                self.answers(rows, [8], answer, number=number, begins=[0, 3, 6], stretches=stretches)
        self.faults(rows, [], 8, begins=[0, 3, 6], stretches=[(0, 1, 8), (2, 4, 8), (5, 7, 8), (8, 11, 8)])

    def test_functions_that_a_fault_left_do_not_count(self):
        rows = [("get", 0), ("put", 1), ADD, ("set", 0), ("get", 0), ("put", 30), ("less",), ("nought", 11),
                ("put", 0), ("call", 1), ("go", 0)] + [("get", 0), BACK] + [("put", 6), RAISE]
        self.answers(rows, [], 30, begins=[0, 13], stretches=[(9, 10, 0)])

    def test_a_fault_in_the_goal(self):
        rows = [("put", 6), RAISE, ("put", 1), ADD, RAISE, SAY] + give(3)
        self.faults(rows, [], 7, stretches=[(0, 2, 2)])
        self.answers(rows, [7], 3, stretches=[(0, 2, 2), (2, 5, 5)])
        self.answers(rows, [7], 3, stretches=[(0, 2, 2), (0, 5, 5)])

    def test_a_goal_in_its_own_stretch(self):
        rows = [("put", 6), TURN, SAY] + [("put", 0), RAISE]
        self.tires(rows, [6] + [0] * 3, 4, stretches=[(0, 5, 1)])

    def test_stretches_that_overlap(self):
        rows = [("put", 6), RAISE, ("put", 1), ADD, RAISE, SAY] + give(3)
        self.answers(rows, [7], 3, stretches=[(0, 3, 2), (1, 5, 5)])
        self.answers(rows, [6], 3, stretches=[(1, 5, 5), (0, 3, 2)])

    def test_stretches_apart(self):
        rows = [("put", 6), RAISE, SAY, ("put", 7), RAISE, SAY] + give(3)
        self.answers(rows, [6, 7], 3, stretches=[(3, 5, 5), (0, 2, 2)])

    def test_it_goes_on_behind_a_caught_fault_as_if_nothing_had_been(self):
        rows = [("put", 5), ("put", 2), ("call", 1), ADD, BACK, ("put", 6), RAISE, SAY, ("get", 0), BACK]
        self.answers(rows, [6], 7, begins=[0, 5], stretches=[(5, 7, 7)])


if __name__ == "__main__":
    unittest.main()

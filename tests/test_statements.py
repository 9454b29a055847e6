"""Points 3 and 7: statements, the ways out of a block, and what a run tells."""

import itertools
import unittest

from tests.helping import (GREAT, LEAVE, NEXT, NOUGHT_SHARE, ONE, ZERO, Telling, add, box, call, catch, chatty, end,
                           give, if_, less, loop, num, put, say, say_box, sub, throw)
from unwind.trees import told

WAYS = {
    "behind": [],
    "leave": [LEAVE],
    "next": [NEXT],
    "give": [give(70)],
    "raise": [throw(5)],
    "101": [("say", NOUGHT_SHARE)],
    "102": [("say", call(1))],
    "tired": [loop(ONE, [])],
}
AROUND = {
    "loop": lambda block: [loop(ONE, [say(10)] + block + [say(11)]), say(12)],
    "if": lambda block: [if_(ONE, block, [say(13)]), say(14)],
    "catch 5": lambda block: [catch(block + [say(20)], 5, 2, [say_box(2)]), say(21)],
    "catch 101": lambda block: [catch(block + [say(22)], 101, 2, [say_box(2)]), say(23)],
    "catch all": lambda block: [catch(block + [say(24)], None, 2, [say_box(2)]), say(25)],
    "hand": lambda block: [catch([throw(8)], 8, 2, [say(26)] + block), say(27)],
    "begun": lambda block: [end(block + [say(30)], [say(31)]), say(32)],
    "last": lambda block: [end([say(33)], [say(34)] + block + [say(35)]), say(36)],
    "last of a fault": lambda block: [end([throw(5)], block + [say(37)]), say(38)],
    "last of a give": lambda block: [end([give(71)], block + [say(39)]), say(40)],
}
ENDLESS = [("give", call(1))]


class OrdinaryTest(Telling):
    def test_one_behind_the_other(self):
        self.answers([[say(1), say(2), put(1, 3), say_box(1)]], [1, 2, 3])

    def test_what_a_run_tells(self):
        self.answers([[say(4), say(-4), say(10 ** 50), give(6)]], [4, -4, 10 ** 50], 6)
        self.faults([[say(4), throw(-6)]], [4], -6)
        self.tires([[say(4), loop(ONE, [])]], [4], 3)

    def test_the_kinds_of_what_is_told(self):
        answer = told([[say(1)]], 0, 0)
        self.assertIs(type(answer), tuple)
        self.assertIs(type(answer[0]), list)
        self.assertEqual(len(answer), 3)
        for number in told([[("say", less(ONE, num(2))), ("give", less(num(2), ONE))]], 0, 0)[0::2]:
            for n in number if isinstance(number, list) else [number]:
                self.assertIs(type(n), int)

    def test_two_runs_share_nothing(self):
        program = [[say(1)]]
        one = told(program, 0, 0)
        one[0].append(5)
        self.assertEqual(told(program, 0, 0), ([1], "answer", 0))

    def test_if(self):
        for n, said in ((0, 2), (1, 1), (-1, 1), (10 ** 30, 1)):
            self.answers([[("if", num(n), [say(1)], [say(2)]), say(3)]], [said, 3])
        self.answers([[if_(ONE, []), if_(ZERO, [], []), say(3)]], [3])

    def test_loop(self):
        self.answers([[loop(box(0), [say_box(0), ("set", 0, sub(box(0), ONE))]), say(9)]], [3, 2, 1, 9], number=3)
        self.answers([[loop(box(0), [say_box(0), ("set", 0, add(box(0), ONE))]), say(9)]], [-2, -1, 9], number=-2)

    def test_leave_is_of_the_innermost_loop(self):
        self.answers([[loop(less(box(1), num(2)), [("set", 1, add(box(1), ONE)), loop(ONE, [LEAVE, say(0)]),
                                                   say_box(1)])]], [1, 2])

    def test_next_is_of_the_innermost_loop(self):
        inner = loop(less(box(2), num(2)), [("set", 2, add(box(2), ONE)), NEXT, say(0)])
        self.answers([[loop(less(box(1), num(2)), [("set", 1, add(box(1), ONE)), put(2, 0), inner, say_box(2)])]],
                     [2, 2])

    def test_leave_and_next_out_of_an_if(self):
        self.answers([[loop(ONE, [if_(ONE, [LEAVE]), say(0)]), say(1)]], [1])
        self.answers([[loop(less(box(1), num(3)), [("set", 1, add(box(1), ONE)), if_(less(box(1), num(3)), [NEXT]),
                                                   say_box(1)])]], [3])

    def test_give_and_raise_say_no_more(self):
        self.answers([[give(4), say(1)]], [], 4)
        self.faults([[throw(4), say(1)]], [], 4)
        self.answers([[if_(ONE, [loop(ONE, [give(4)]), say(1)]), say(1)]], [], 4)
        self.faults([[("raise", sub(ZERO, box(0)))]], [], -5, number=5)


class CatchTest(Telling):
    def test_by_its_number(self):
        self.answers([[catch([throw(5), say(0)], 5, 1, [say_box(1), say(2)]), say(3)]], [5, 2, 3])
        for number in (5, 0, -5, 10 ** 40):
            self.answers([[catch([throw(number)], number, 1, [say_box(1)])]], [number])

    def test_by_none_any_fault(self):
        for number in (5, 0, -5, 101, 10 ** 40):
            self.answers([[catch([throw(number)], None, 1, [say_box(1)])]], [number])
        self.answers([[catch([("say", NOUGHT_SHARE)], None, 1, [say_box(1)])]], [101])

    def test_great_numbers(self):
        for number in (GREAT, -GREAT):
            self.faults([[throw(number)]], [], number)
            self.faults([[end([throw(number)], [say(1)])]], [1], number)
            self.faults([[catch([throw(number)], number + 1, 1, [say(0)])]], [], number)
            self.answers([[catch([throw(number)], number, 1, [say_box(1)])]], [number])
            self.answers([[catch([throw(number)], None, 1, [say_box(1)])]], [number])
            self.answers([[catch([("raise", call(1))], number, 1, [say_box(1)])], [give(number)]], [number])
            self.faults([[catch([throw(1)], number, 1, [say(0)])]], [], 1)

    def test_another_number_goes_on_and_leaves_the_box(self):
        self.faults([[catch([throw(5)], 4, 1, [say(0)]), say(0)]], [], 5)
        self.answers([[put(1, 7), catch([catch([throw(5)], 4, 1, [say(0)]), say(0)], 5, 2, [say_box(1), say_box(2)])]],
                     [7, 5])
        self.faults([[catch([throw(5)], 0, 1, [say(0)])]], [], 5)
        self.faults([[catch([throw(0)], 5, 1, [say(0)])]], [], 0)

    def test_raised_101_is_caught_as_101(self):
        self.answers([[catch([throw(101)], 101, 1, [say_box(1)]), catch([throw(102)], 102, 1, [say_box(1)])]],
                     [101, 102])

    def test_no_fault_no_hand(self):
        self.answers([[put(1, 7), catch([say(1)], None, 1, [say(0)]), say_box(1)]], [1, 7])
        self.answers([[catch([], None, 1, [say(0)]), say(2)]], [2])

    def test_the_box_holds_the_number_from_then_on(self):
        self.answers([[catch([throw(5)], 5, 3, []), say_box(3)]], [5])
        self.answers([[catch([throw(5)], 5, 0, [("set", 0, add(box(0), ONE))]), say_box(0)]], [6], number=99)

    def test_what_body_did_stands(self):
        self.answers([[catch([put(2, 4), say(1), throw(5)], 5, 1, []), say_box(2)]], [1, 4])

    def test_a_fault_in_the_hand_is_not_caught_by_it(self):
        self.faults([[catch([throw(5)], None, 1, [throw(5)]), say(0)]], [], 5)
        self.answers([[catch([catch([throw(5)], 5, 1, [throw(6)])], 6, 2, [say_box(1), say_box(2)])]], [5, 6])

    def test_the_inner_one_first(self):
        self.answers([[catch([catch([throw(5)], None, 1, [say(1)]), say(2)], 5, 1, [say(0)])]], [1, 2])

    def test_two_one_behind_the_other(self):
        self.answers([[catch([throw(5)], 5, 1, [say(1)]), catch([throw(5)], 5, 1, [say(2)])]], [1, 2])

    def test_all_other_ways_go_on(self):
        self.answers([[loop(ONE, [catch([LEAVE], None, 1, [say(0)]), say(0)]), say(1)]], [1])
        self.answers([[loop(less(box(1), num(2)), [("set", 1, add(box(1), ONE)),
                                                   catch([NEXT], None, 2, [say(0)]), say(0)]), say(1)]], [1])
        self.answers([[catch([give(6)], None, 1, [say(0)]), say(0)]], [], 6)

    def test_the_hand_is_left_by_each_way(self):
        self.answers([[loop(ONE, [catch([throw(5)], 5, 1, [LEAVE]), say(0)]), say(1)]], [1])
        self.answers([[loop(less(box(2), num(2)), [("set", 2, add(box(2), ONE)),
                                                   catch([throw(5)], 5, 1, [NEXT]), say(0)]), say(1)]], [1])
        self.answers([[catch([throw(5)], 5, 1, [("give", add(box(1), ONE))]), say(0)]], [], 6)

    def test_a_fault_while_numbers_lie_about(self):
        deep = add(ONE, add(ONE, add(ONE, call(1))))
        self.answers([[catch([("say", deep)], 7, 1, [("say", add(box(1), box(1)))]), say(3)], [throw(7)]], [14, 3])


class EndTest(Telling):
    def test_behind_the_last_statement(self):
        self.answers([[end([say(1)], [say(2)]), say(3)]], [1, 2, 3])
        self.answers([[end([], []), end([], [say(1)]), end([say(2)], [])]], [1, 2])

    def test_give_goes_on_with_its_number(self):
        self.answers([[put(1, 6), end([("give", box(1)), say(0)], [say(2), put(1, 9)]), say(0)]], [2], 6)

    def test_great_numbers_go_on(self):
        for number in (GREAT, -GREAT):
            self.answers([[end([give(number)], [("set", 0, ONE), say(1)])]], [1], number)
            self.faults([[end([throw(number)], [catch([throw(-number)], None, 0, []), say_box(0)])]], [-number], number)
            self.answers([[end([throw(1)], [give(number)])]], [], number)

    def test_a_fault_goes_on_with_its_number(self):
        self.faults([[put(1, 6), end([("raise", box(1)), say(0)], [say(2), put(1, 9)]), say(0)]], [2], 6)
        self.faults([[end([("say", NOUGHT_SHARE)], [say(2)]), say(0)]], [2], 101)
        self.answers([[catch([end([throw(6)], [say(2)]), say(0)], 6, 1, [say_box(1)])]], [2, 6])

    def test_leave_and_next_go_on(self):
        self.answers([[loop(ONE, [end([LEAVE], [say(2)]), say(0)]), say(3)]], [2, 3])
        self.answers([[loop(less(box(1), num(2)), [("set", 1, add(box(1), ONE)), end([NEXT], [say_box(1)]), say(0)]),
                       say(3)]], [1, 2, 3])

    def test_a_loop_within_is_left_without_it(self):
        self.answers([[end([loop(ONE, [LEAVE]), say(1)], [say(2)])]], [1, 2])
        self.answers([[end([loop(less(box(1), num(2)), [("set", 1, add(box(1), ONE)), NEXT]), say(1)], [say(2)])]],
                     [1, 2])

    def test_a_give_of_a_call_in_last_does_not_mix_with_its_own(self):
        self.answers([[end([give(6)], [("say", call(1, num(3)))])], [end([("give", box(0))], [put(0, 4)])]], [3], 6)

    def test_another_way_of_last_goes_on_and_the_first_is_forgotten(self):
        first = {"behind": [], "give": [give(6)], "raise": [throw(7)], "leave": [LEAVE], "next": [NEXT]}
        for name, body in first.items():
            with self.subTest(name):
                self.answers([[loop(ONE, [end(body, [give(8)])]), say(0)]], [], 8)
                self.faults([[loop(ONE, [end(body, [throw(9)])]), say(0)]], [], 9)
                self.answers([[loop(ONE, [end(body, [LEAVE]), say(0)]), say(1)]], [1])
                self.answers([[loop(less(box(1), num(2)), [("set", 1, add(box(1), ONE)), end(body, [NEXT]), say(0)]),
                               say_box(1)]], [2])

    def test_a_forgotten_fault_is_not_caught(self):
        self.answers([[loop(ONE, [catch([end([throw(5)], [LEAVE])], None, 1, [say(0)])]), say(1)]], [1])
        self.answers([[catch([end([throw(5)], [throw(6)])], None, 1, [say_box(1)])]], [6])

    def test_a_loop_in_last_that_is_left_does_not_forget(self):
        self.answers([[end([give(6)], [loop(ONE, [say(1), LEAVE])]), say(0)]], [1], 6)
        self.faults([[end([throw(6)], [loop(ONE, [LEAVE])]), say(0)]], [], 6)

    def test_a_fault_caught_in_last_does_not_forget(self):
        caught = catch([throw(3)], 3, 1, [say_box(1)])
        self.answers([[end([give(6)], [caught]), say(0)]], [3], 6)
        self.faults([[end([throw(6)], [caught]), say(0)]], [3], 6)
        self.answers([[loop(ONE, [end([LEAVE], [caught]), say(0)]), say(1)]], [3, 1])

    def test_ends_in_body(self):
        self.answers([[end([end([end([give(6)], [say(1)])], [say(2)])], [say(3)]), say(0)]], [1, 2, 3], 6)
        self.faults([[end([end([throw(6)], [say(1)])], [say(2), throw(7)])]], [1, 2], 7)
        self.answers([[loop(ONE, [end([end([LEAVE], [say(1)])], [say(2)])]), say(3)]], [1, 2, 3])

    def test_ends_in_last(self):
        self.answers([[end([give(6)], [end([say(1)], [say(2)])]), say(0)]], [1, 2], 6)
        self.answers([[end([give(6)], [end([give(7)], [say(2)])]), say(0)]], [2], 7)
        self.faults([[end([throw(6)], [end([], [end([], [say(3)])])]), say(0)]], [3], 6)
        self.answers([[end([give(6)], [catch([end([throw(7)], [say(1)])], 7, 1, [say(2)])])]], [1, 2], 6)

    def test_the_last_of_each_function_that_is_left(self):
        self.faults([[end([("say", call(1))], [say(1)])], [end([throw(3)], [say(2)])]], [2, 1], 3)
        self.answers([[end([("say", call(1))], [say(1)])], [end([give(3)], [say(2)])]], [2, 3, 1])

    def test_seven_in_last_of_one_another(self):
        block = [say(1)]
        for n in range(7):
            block = [end([give(n)], block + [say(n)])]
        self.answers([block], [1, 0], 0)

    def test_six_in_last_none_of_which_forgets(self):
        block = [say(9)]
        for n in range(5):
            block = [end([catch([throw(n)], n, 1, [say_box(1)])], block)]
        self.answers([[end([give(33)], block)]], [4, 3, 2, 1, 0, 9], 33)
        self.faults([[end([throw(33)], block)]], [4, 3, 2, 1, 0, 9], 33)


class WaysTest(Telling):
    """Each way out through one, two and three blocks around it."""

    def check(self, block):
        # The loop's turns are few, so that a loop that isn't left tires the run.
        program = [[say(1), loop(less(box(3), num(2)), [("set", 3, add(box(3), ONE))] + block + [say(2)]), say(3)],
                   ENDLESS]
        self.all_alike(program, [0], [0, 2, 3, 14, 17])

    def test_through_up_to_two(self):
        for name, way in WAYS.items():
            self.check(way)
            for one, other in itertools.product(AROUND, AROUND):
                with self.subTest(name, one=one, other=other):
                    self.check(AROUND[other](way))
                    self.check(AROUND[one](AROUND[other](way)))

    def test_through_three(self):
        some = ("loop", "catch 5", "catch all", "hand", "begun", "last", "last of a fault")
        for name, way in WAYS.items():
            for one, two, three in itertools.product(some, some, some):
                with self.subTest(name, one=one, two=two, three=three):
                    self.check(AROUND[one](AROUND[two](AROUND[three](way))))

    def test_each_way_out_of_body_and_of_last(self):
        for one, other in itertools.product(WAYS.values(), WAYS.values()):
            for wrap in AROUND.values():
                self.check(wrap([end([say(50)] + one, [say(51)] + other)]))
                self.check([end(wrap(one), wrap(other))])

    def test_102_out_of_the_ninth_only(self):
        self.answers([[catch(WAYS["102"], None, 1, [say_box(1)])], ENDLESS], [102])
        self.answers([[catch(WAYS["102"], 102, 1, [say_box(1)])], ENDLESS], [102], turns=8)
        self.tires([[catch(WAYS["102"], None, 1, [say_box(1)])], ENDLESS], [], 7)

    def test_a_function_without_a_loop(self):
        for name in ("behind", "give", "raise", "101", "102"):
            for one, other in itertools.product(AROUND.values(), AROUND.values()):
                self.all_alike([one(other(WAYS[name])), ENDLESS], [0], [0, 3, 12])

    def test_as_a_called_function(self):
        for name in ("behind", "give", "raise", "101", "tired"):
            for one in AROUND.values():
                for other in AROUND.values():
                    self.all_alike([one([("say", call(2))]), ENDLESS, other(WAYS[name]), chatty(1)], [0], [0, 3, 12])


if __name__ == "__main__":
    unittest.main()

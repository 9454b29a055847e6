"""Points 1, 2, 4, 5 and 6: numbers, boxes, arithmetic, calls, turns and functions within one another."""

import unittest

from tests.helping import (GREAT, NOUGHT_SHARE, ONE, ZERO, Telling, add, box, call, catch, chatty, end, give,
                           if_, less, loop, num, put, say, say_box, share, sub, throw)

HUGE = 10 ** 60 + 7


class ReckoningTest(Telling):
    def comes_to(self, expression, expected):
        self.answers([[("give", expression)]], [], expected)

    def test_numbers(self):
        for n in (0, 1, -1, HUGE, -HUGE):
            self.comes_to(num(n), n)

    def test_add_sub(self):
        self.comes_to(add(num(7), num(-9)), -2)
        self.comes_to(add(num(HUGE), num(HUGE)), 2 * HUGE)
        self.comes_to(sub(num(7), num(9)), -2)
        self.comes_to(sub(num(-7), num(-9)), 2)
        self.comes_to(sub(num(0), num(HUGE)), -HUGE)

    def test_less(self):
        for one, other, expected in ((1, 2, 1), (2, 1, 0), (2, 2, 0), (-2, -1, 1), (-1, -2, 0),
                                     (-HUGE, HUGE, 1), (HUGE, HUGE + 1, 1)):
            self.comes_to(less(num(one), num(other)), expected)

    def test_less_comes_to_a_number(self):
        self.comes_to(add(less(ONE, num(2)), less(ONE, num(3))), 2)

    def test_share_is_rounded_down(self):
        for one, other, expected in ((7, 2, 3), (-7, 2, -4), (7, -2, -4), (-7, -2, 3), (6, 3, 2),
                                     (-6, 3, -2), (0, 5, 0), (0, -5, 0), (1, 9, 0), (-1, 9, -1),
                                     (HUGE, 10 ** 59, 10), (-HUGE, 10 ** 59, -11)):
            self.comes_to(share(num(one), num(other)), expected)

    def test_share_by_nought(self):
        for one in (0, 1, -1, HUGE):
            self.faults([[say(1), ("give", share(num(one), ZERO))]], [1], 101)
        self.faults([[say(1), ("say", share(ONE, sub(num(5), num(5)))), say(2)]], [1], 101)

    def test_great_numbers(self):
        for expression, expected in ((num(GREAT), GREAT), (num(-GREAT), -GREAT),
                                     (add(num(GREAT), num(GREAT)), 2 * GREAT), (sub(ONE, num(GREAT)), 1 - GREAT),
                                     (less(num(-GREAT), num(GREAT)), 1), (less(num(GREAT), num(GREAT)), 0),
                                     (share(num(GREAT), num(GREAT)), 1), (share(num(GREAT), ONE), GREAT),
                                     (share(num(-1), num(GREAT)), -1), (share(ONE, num(-GREAT)), -1)):
            self.comes_to(expression, expected)
        self.faults([[("say", share(num(GREAT), ZERO))]], [], 101)

    def test_great_numbers_are_handed_on(self):
        self.answers([[("give", call(1, box(0)))], [say_box(0), ("give", box(0))]], [GREAT], GREAT, number=GREAT)
        self.answers([[("say", call(1))], chatty(4)], [4, 4], turns=GREAT)

    def test_expressions_within_one_another(self):
        self.comes_to(sub(share(num(-9), add(ONE, ONE)), less(ONE, num(2))), -6)


class BoxesTest(Telling):
    def test_box_0_holds_what_was_handed_in_and_the_others_0(self):
        block = [say_box(k) for k in range(4)]
        self.answers([block], [5, 0, 0, 0], number=5)
        self.answers([block], [-HUGE, 0, 0, 0], number=-HUGE)

    def test_each_box_for_itself(self):
        self.answers([[put(k, 10 + k) for k in range(4)] + [say_box(k) for k in range(4)]],
                     [10, 11, 12, 13])

    def test_a_box_holds_what_was_set_last(self):
        self.answers([[("set", 0, add(box(0), box(0))), ("set", 0, add(box(0), ONE)), say_box(0)]],
                     [11], number=5)

    def test_each_entered_function_has_its_own(self):
        self.answers([[put(0, 1), put(1, 2), ("say", call(1, num(9))), say_box(0), say_box(1)],
                      [say_box(0), say_box(1), put(0, 7), put(1, 8)]], [9, 0, 0, 1, 2])

    def test_those_of_a_second_call_are_new(self):
        self.answers([[("say", call(1)), ("say", call(1))], [say_box(3), put(3, 5), give(6)]],
                     [0, 6, 0, 6])


class OrderTest(Telling):
    def test_the_left_one_first(self):
        for joined in (add, sub, less, share):
            self.answers([[("set", 1, joined(call(1, num(2)), call(1, num(3))))],
                          [say_box(0), ("give", box(0))]], [2, 3])

    def test_a_fault_on_the_left(self):
        for joined in (add, sub, less, share):
            self.faults([[("say", joined(NOUGHT_SHARE, call(1)))], chatty(4)], [], 101)
            self.faults([[("say", joined(call(2), NOUGHT_SHARE))], chatty(4), [throw(9)]], [], 9)

    def test_a_fault_on_the_right(self):
        for joined in (add, sub, less, share):
            self.faults([[("say", joined(call(1), NOUGHT_SHARE))], chatty(4)], [4], 101)
            self.faults([[("say", joined(call(1), call(2)))], chatty(4), [throw(9)]], [4], 9)

    def test_share_looks_at_its_right_one_behind_both(self):
        self.faults([[("say", share(call(1), ZERO))], chatty(4)], [4], 101)
        self.faults([[("say", share(call(1), ZERO))], [throw(6)]], [], 6)

    def test_boxes_are_read_when_their_turn_comes(self):
        # No expression changes a box of its own function.
        self.answers([[("give", add(box(0), add(call(1, box(0)), box(0))))],
                      [("set", 0, add(box(0), ONE)), ("give", box(0))]], [], 16, number=5)

    def test_a_fault_leaves_a_box_as_it_was(self):
        self.answers([[put(1, 3), catch([("set", 1, NOUGHT_SHARE)], None, 2, []), say_box(1), say_box(2)]],
                     [3, 101])

    def test_a_fault_out_of_each_statement(self):
        for statement in (("set", 0, NOUGHT_SHARE), ("say", NOUGHT_SHARE), ("give", NOUGHT_SHARE),
                          ("raise", NOUGHT_SHARE), ("if", NOUGHT_SHARE, [say(2)], [say(3)]),
                          ("loop", NOUGHT_SHARE, [say(4)])):
            self.faults([[say(1), statement, say(5)]], [1], 101)
            self.answers([[catch([statement, say(5)], 101, 1, [say_box(1)]), say(6)]], [101, 6])


class CallsTest(Telling):
    def test_what_a_function_gives_back(self):
        self.answers([[("give", call(1, num(20)))], [("give", add(box(0), ONE))]], [], 21)

    def test_a_function_that_gives_nothing_back(self):
        self.answers([[("give", call(1, num(20)))], [put(1, 9)]], [], 0)
        self.answers([[]], [], 0, number=7)

    def test_give_leaves_all_of_the_function_and_no_other(self):
        self.answers([[("say", call(1)), say(2)],
                      [loop(ONE, [if_(ONE, [loop(ONE, [give(7)])]), say(8)])]], [7, 2])

    def test_a_fault_comes_out_of_the_call(self):
        self.faults([[say(1), ("say", add(ONE, call(1))), say(2)], [say(3), throw(44), say(4)]], [1, 3], 44)

    def test_a_fault_through_several_functions(self):
        program = [[catch([("say", call(1))], 5, 1, [say_box(1)]), say(9)],
                   [catch([("say", call(2))], 4, 1, [say(0)]), say(0)],
                   [end([("say", call(3)), say(0)], [say(2)])], [throw(5)]]
        self.answers(program, [2, 5, 9])

    def test_a_caught_fault_puts_its_number_in_a_box_of_the_catching_function(self):
        self.answers([[put(2, 8), ("say", call(1)), say_box(2)], [catch([throw(5)], 5, 2, [("give", box(2))])]],
                     [5, 8])

    def test_a_function_that_calls_itself(self):
        down = [[("give", call(1, box(0)))],
                [if_(box(0), [("give", add(box(0), call(1, sub(box(0), ONE))))])]]
        self.answers(down, [], 21, number=6)


class TurnsTest(Telling):
    def test_the_beginning_takes_none(self):
        self.answers([[say(1), give(2)]], [1], 2, turns=0)

    def test_each_call_takes_one(self):
        program = [[("say", call(1)), ("say", call(1))], chatty(4)]
        self.tires(program, [], 0)
        self.tires(program, [4, 4], 1)
        self.answers(program, [4, 4, 4, 4], turns=2)

    def test_a_call_takes_its_turn_behind_the_reckoning_of_its_number(self):
        program = [[("give", call(1, call(2)))], chatty(4), chatty(5)]
        self.tires(program, [], 0)
        self.tires(program, [5], 1)
        self.answers(program, [5, 4], 4, turns=2)

    def test_a_fault_in_the_number_of_a_call_takes_none(self):
        program = [[catch([("say", call(1, NOUGHT_SHARE))], None, 1, [say_box(1)])], chatty(4)]
        self.answers(program, [101], turns=0)

    def test_each_asking_takes_one_ahead_of_it(self):
        program = [[loop(less(box(1), num(2)), [say_box(1), ("set", 1, add(box(1), ONE))]), say(9)]]
        self.tires(program, [], 0)
        self.tires(program, [0], 1)
        self.tires(program, [0, 1], 2)
        self.answers(program, [0, 1, 9], turns=3)

    def test_a_loop_that_is_never_done_takes_one(self):
        self.tires([[loop(ZERO, [say(1)])]], [], 0)
        self.answers([[loop(ZERO, [say(1)]), say(2)]], [2], turns=1)

    def test_asking_takes_its_turn_ahead_of_the_calls_in_it(self):
        program = [[loop(call(1), [say(1)])], chatty(0)]
        self.tires(program, [], 0)
        self.tires(program, [], 1)
        self.answers(program, [0], turns=2)

    def test_next_takes_one_and_leave_none(self):
        body = [("set", 1, add(box(1), ONE)), if_(less(box(1), num(3)), [("next",)]), ("leave",)]
        program = [[loop(ONE, body), say_box(1)]]
        self.tires(program, [], 2)
        self.answers(program, [3], turns=3)

    def test_blocks_take_none(self):
        self.answers([[if_(ONE, [end([catch([throw(1)], 1, 0, [say(1)])], [say(2)])])]], [1, 2], turns=0)

    def test_a_number_of_any_size(self):
        self.answers([[("say", call(1))], chatty(4)], [4, 4], turns=10 ** 40)

    def test_nothing_catches_it_and_nothing_is_done_at_the_end(self):
        for tiring in (loop(ONE, []), ("say", call(1)), ("say", add(ONE, call(1)))):
            within = [say(1), tiring, say(2)]
            for block in ([catch(within, None, 0, [say(3)])], [end(within, [say(4)])],
                          [end([catch(within, None, 0, [say(3)])], [say(4)])],
                          [catch([end(within, [say(4)])], None, 0, [say(3)])],
                          [catch([throw(5)], 5, 0, within), say(6)], [end([], within), say(6)],
                          [end([throw(5)], within), say(6)], [end([give(5)], within), say(6)]):
                self.tires([block + [say(7)], [say(8)]], [1], 0)

    def test_tired_in_a_function_that_others_wait_for(self):
        program = [[end([("say", call(1))], [say(1)])], [catch([("say", call(2))], None, 0, [say(2)])],
                   [say(3), loop(ONE, [])]]
        self.tires(program, [3], 3)


def falling():
    """Function 1 says its number and calls itself with one less, until it is handed 1."""
    return [[("give", call(1, box(0)))],
            [say_box(0), if_(less(box(0), num(2)), [give(50)], [("give", call(1, sub(box(0), ONE)))])]]


class DepthTest(Telling):
    def test_eight_functions_and_a_ninth(self):
        self.answers(falling(), [7, 6, 5, 4, 3, 2, 1], 50, number=7)
        self.faults(falling(), [8, 7, 6, 5, 4, 3, 2], 102, number=8)

    def test_the_turn_is_taken_ahead_of_the_ninth(self):
        self.tires(falling(), [8, 7, 6, 5, 4, 3, 2], 7, number=8)
        self.faults(falling(), [8, 7, 6, 5, 4, 3, 2], 102, number=8, turns=8)
        self.tires(falling(), [7, 6, 5, 4, 3, 2], 6, number=7)
        self.answers(falling(), [7, 6, 5, 4, 3, 2, 1], 50, number=7, turns=7)

    def test_the_number_of_the_ninth_is_reckoned(self):
        program = [[("say", call(0, NOUGHT_SHARE))]]
        self.faults(program, [], 101)
        program = [[if_(less(box(0), num(7)), [("give", call(0, add(box(0), ONE)))]),
                    ("give", call(0, NOUGHT_SHARE))]]
        self.faults(program, [], 101)
        self.faults(program, [], 101, turns=7)

    def test_102_is_a_fault_as_others_are(self):
        program = [[catch([("say", call(0, add(box(0), ONE)))], 102, 1, [say_box(0), say_box(1)])]]
        self.answers(program, [7, 102, 0, 0, 0, 0, 0, 0, 0])
        program = [[end([("say", call(0, add(box(0), ONE)))], [say_box(0)])]]
        self.faults(program, [7, 6, 5, 4, 3, 2, 1, 0], 102)

    def test_left_functions_do_not_count(self):
        program = [[loop(less(box(1), num(20)), [("set", 1, add(box(1), ONE)), ("set", 2, call(1))]), say_box(1)],
                   [catch([("give", call(2))], None, 0, [])], [throw(3)]]
        self.answers(program, [20])
        program = [[("give", add(call(1, num(7)), call(1, num(7))))]] + falling()[1:]
        self.answers(program, [7, 6, 5, 4, 3, 2, 1] * 2, 100)

    def test_functions_left_by_102_do_not_count(self):
        program = [[catch([("say", call(1, num(8)))], 102, 1, []), ("say", call(1, num(7)))]] + falling()[1:]
        self.answers(program, [8, 7, 6, 5, 4, 3, 2, 7, 6, 5, 4, 3, 2, 1, 50])

    def test_the_deepest_program(self):
        # Eight functions, each with eight blocks and six expressions within one another.
        deep = call(0, box(0))
        for _ in range(4):
            deep = add(ZERO, deep)
        block = [say_box(0), ("give", deep)]
        for _ in range(7):
            block = [end(block, [])]
        self.faults([block], [6] * 8, 102, number=6)


if __name__ == "__main__":
    unittest.main()

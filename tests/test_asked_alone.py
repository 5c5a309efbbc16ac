"""Promises 8, ask, 9, funs, and 10, looked."""

import unittest

from helper import EXAMPLE, FAR, answered, answered_of, ask, change, funs, looked, program, show, shown, size, twos, undo

NUMBER = (0, 0)
OMEGA = "((fun x (x x)) (fun y (y y)))"
TWO_REFERENCES = "(let r (new 0) (let s (new 1) (pair (get r) (set s 2))))"


class AskedCase(unittest.TestCase):
    def asked(self, text, label, sorts, places):
        """sorts: what is at the node; places: those that are looked at, all in order."""
        with self.subTest(text=text, label=label):
            one, other = answered_of(text, ask(label), looked(label))
            self.assertEqual(twos(one[:-1]), sorts)
            self.assertEqual(twos(other), places)
            self.assertEqual(one[-1], len(places))


class AskAndLooked(AskedCase):
    def test_the_example(self):
        self.asked(EXAMPLE, 7, [NUMBER], [(0, 1), (0, 2), (0, 4), (0, 7), (0, 8), (0, 9), (0, 11), (1, 0), (1, 1), (1, 3)])
        self.asked(EXAMPLE, 8, [(1, 1)], [(0, 1), (0, 8), (1, 0)])
        self.asked(EXAMPLE, 10, [NUMBER], [(0, 4), (0, 5), (0, 10), (0, 11), (1, 3)])
        self.asked(EXAMPLE, 0, [(2, 6)], [(0, 0), (0, 3), (0, 6)])
        self.asked(EXAMPLE, 12, [NUMBER], [(0, 12)])

    def test_at_the_beginning(self):
        self.assertEqual(answered(ask(0), looked(0), ask(1), looked(1)), [[1, 0, 0, 1], [1, 0, 0], [-3], [-3]])

    def test_what_is_known_by_itself(self):
        for text, sort in (("7", NUMBER), ("in", NUMBER), ("(add in (fun x x))", NUMBER), ("(fun x (x x))", (1, 0)),
                           ("(pair 1 (new 2))", (2, 0)), ("(new (pair 1 2))", (3, 0))):
            self.asked(text, 0, [sort], [(0, 0)])

    def test_a_name_and_its_let(self):
        self.asked("(let x (new 1) x)", 0, [(3, 1)], [(0, 0), (0, 1), (0, 3), (1, 0)])
        self.asked("(let x (new 1) x)", 3, [(3, 1)], [(0, 1), (0, 3), (1, 0)])
        self.asked("(let x (new 1) 2)", 0, [NUMBER], [(0, 0), (0, 3)])

    def test_a_name_of_a_function_that_is_not_called(self):
        self.asked("(fun x x)", 1, [], [(0, 1), (1, 0)])

    def test_a_let_looks_at_no_calls_for_its_name(self):
        self.asked("(let x 1 (pair (2 3) x))", 6, [NUMBER], [(0, 1), (0, 6), (1, 0)])
        self.asked("(pair (2 3) (fun x x))", 5, [], [(0, 2), (0, 5), (1, 4)])

    def test_the_name_of_a_function_looks_at_all_calls(self):
        self.asked("(pair (1 2) ((pair 3 4) (fun x x)))", 9, [], [(0, 2), (0, 5), (0, 9), (1, 8)])

    def test_an_if_without_its_first_part(self):
        self.asked("(if (1 2) (new 3) 4)", 0, [NUMBER, (3, 4)], [(0, 0), (0, 4), (0, 6)])

    def test_calls(self):
        self.asked("(1 2)", 0, [], [(0, 0), (0, 1)])
        self.asked("((fun x 1) 2)", 0, [NUMBER], [(0, 0), (0, 1), (0, 2)])
        self.asked("((fun x x) (new 2))", 0, [(3, 3)], [(0, 0), (0, 1), (0, 2), (0, 3), (1, 1)])
        self.asked("((fun x x) (new 2))", 2, [(3, 3)], [(0, 1), (0, 2), (0, 3), (1, 1)])
        self.asked("((fun x x) (new 2))", 3, [(3, 3)], [(0, 3)])

    def test_only_arguments_that_come_to_the_name(self):
        text = "(pair ((fun x x) (new 1)) ((fun y y) (pair 2 3)))"
        self.asked(text, 3, [(3, 4)], [(0, 2), (0, 3), (0, 4), (0, 7), (1, 2)])
        self.asked(text, 8, [(2, 9)], [(0, 2), (0, 7), (0, 8), (0, 9), (1, 7)])

    def test_parts_of_pairs(self):
        self.asked("(fst (pair (new 1) 2))", 0, [(3, 2)], [(0, 0), (0, 1), (0, 2), (2, 1)])
        self.asked("(snd (pair (new 1) 2))", 0, [NUMBER], [(0, 0), (0, 1), (0, 4), (3, 1)])
        self.asked("(fst 1)", 0, [], [(0, 0), (0, 1)])
        self.asked("(snd (new 1))", 0, [], [(0, 0), (0, 1)])

    def test_references(self):
        self.asked("(get (new (pair 1 2)))", 0, [(2, 2)], [(0, 0), (0, 1), (0, 2), (4, 1)])
        self.asked("(get 1)", 0, [], [(0, 0), (0, 1)])
        self.asked("(set 1 2)", 0, [NUMBER], [(0, 0), (0, 2)])
        self.asked("(let r (new 0) (pair (get r) (set r (fun x 1))))", 4, [NUMBER, (1, 8)],
                   [(0, 1), (0, 2), (0, 4), (0, 5), (0, 7), (0, 8), (1, 0), (4, 1)])

    def test_an_inside_looks_at_the_first_parts_of_all_sets(self):
        self.asked(TWO_REFERENCES, 7, [NUMBER],
                   [(0, 1), (0, 2), (0, 4), (0, 7), (0, 8), (0, 10), (1, 0), (1, 3), (4, 1)])
        self.asked("(pair (get (new 1)) (pair (get 2) (new 3)))", 1, [NUMBER], [(0, 1), (0, 2), (0, 3), (4, 2)])

    def test_rounds_that_come_back_to_themselves(self):
        self.asked(OMEGA, 0, [], [(0, label) for label in range(9)] + [(1, 1), (1, 5)])
        self.asked("(let r (new 0) (let s (set r r) (get (get r))))", 7, [NUMBER, (3, 1)],
                   [(0, 1), (0, 2), (0, 5), (0, 6), (0, 7), (0, 8), (0, 9), (1, 0), (4, 1)])

    def test_sorts_are_in_order(self):
        self.asked("(if in (pair 1 2) (if in (fun x x) (if in (new 3) 4)))", 0, [NUMBER, (2, 2), (1, 7), (3, 11)],
                   [(0, 0), (0, 2), (0, 5), (0, 7), (0, 9), (0, 11), (0, 13)])

    def test_of_a_changed_program(self):
        told = answered(program("(fst 1)"), change(1, "(pair (new 1) 2)"), ask(0), looked(0), undo(), ask(0), looked(0))
        self.assertEqual(told[2:4], [[1, 3, 2, 4], [4, 0, 0, 0, 1, 0, 2, 2, 1]])
        self.assertEqual(told[5:], [[0, 2], [2, 0, 0, 0, 1]])


class Funs(unittest.TestCase):
    def told(self, text, label, functions, places):
        with self.subTest(text=text, label=label):
            self.assertEqual(answered_of(text, funs(label)), [[len(functions)] + functions + [places]])

    def test_the_example(self):
        self.told(EXAMPLE, 7, [1], 3)
        self.told(EXAMPLE, 10, [4], 3)

    def test_calls_of_what_is_no_function(self):
        self.told("(1 2)", 0, [], 1)
        self.told("((pair 1 2) 3)", 0, [], 1)
        self.told("(fun x (x 1))", 1, [], 2)

    def test_the_function_is_asked_and_not_the_call(self):
        self.told("((fun x x) (new 2))", 0, [1], 1)
        self.told("(((fun x x) (fun y y)) 3)", 0, [4], 5)
        self.told("(((fun x x) (fun y y)) 3)", 1, [2], 1)

    def test_several_rise_by_their_labels(self):
        self.told("((if in (fun x x) (fun y 1)) (new 2))", 0, [3, 5], 3)
        self.told("(let f (fun a 1) (let g (fun b 2) ((if in g f) 0)))", 6, [1, 4], 7)

    def test_functions_alone_of_what_is_there(self):
        self.told("((if in (new 1) (if in (fun x 1) (if in (pair 1 2) (fun y 2)))) 3)", 0, [7, 14], 7)

    def test_calls_within_functions(self):
        self.told(OMEGA, 0, [1], 1)
        self.told(OMEGA, 2, [5], 8)
        self.told(OMEGA, 6, [5], 8)

    def test_of_a_changed_program(self):
        told = answered(program("(1 2)"), funs(0), change(1, "(fun x x)"), funs(0), change(0, "3"), funs(0), undo(), funs(0))
        self.assertEqual(told[1::2], [[0, 1], [1, 1, 1], [-5], [1, 1, 1]])


class Refusals(unittest.TestCase):
    def refused(self, call, number):
        around = (change(12, "(f 5)"), show(), size())
        told = answered(program(EXAMPLE), *around, call, show(), size(), undo(), show())
        text = "(let f (fun x x) (let g (fun y 1) (pair (f 2) (g (f 5)))))"
        after = [shown(text), [15, 21, 4, 1]]
        self.assertEqual(told[2:], after + [[number]] + after + [[13], shown(EXAMPLE)])

    def test_no_node(self):
        for label in (-1, 15, 16, FAR, -FAR):
            for call in (ask, funs, looked):
                with self.subTest(label=label, call=call.__name__):
                    self.refused(call(label), -3)

    def test_no_call(self):
        for label in (0, 1, 2, 3, 4, 5, 6, 8, 9, 11, 13, 14):
            with self.subTest(label=label):
                self.refused(funs(label), -5)

    def test_no_call_of_each_form(self):
        for text in ("7", "in", "(fun x x)", "(let x 1 2)", "(if 1 2 3)", "(pair 1 2)", "(fst 1)", "(snd 1)", "(new 1)",
                     "(get 1)", "(set 1 2)", "(add 1 2)"):
            self.assertEqual(answered(program(text), funs(0))[1], [-5], text)

    def test_the_last_node_is_none_behind(self):
        told = answered(program("(1 2)"), ask(2), ask(3), looked(2), looked(3), funs(2), funs(3))
        self.assertEqual(told[1:], [[1, 0, 0, 1], [-3], [1, 0, 2], [-3], [-5], [-3]])


if __name__ == "__main__":
    unittest.main()

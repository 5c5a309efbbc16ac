"""Promises 11, change, and 12, undo; and how many programs size tells to be kept."""

import unittest

from helper import EXAMPLE, FAR, add_tree, answered, arrows, as_bytes, ask, change, class_of, classes, counts, nested
from helper import program, set_at, show, shown, size, undo

WORDS = ("fun", "let", "if", "pair", "fst", "snd", "new", "get", "set", "add")
CALLED = "(let f (fun x x) (f 1))"


class ChangeCase(unittest.TestCase):
    def changed(self, text, label, put, becomes, numbers):
        """numbers: how many nodes; kept, gone and new facts."""
        with self.subTest(text=text, label=label, put=put):
            told = answered(program(text), size(), change(label, put), show(), size(), undo(), show(), size())
            self.assertEqual(told[2], numbers)
            self.assertEqual(bytes(told[3][1:]).decode(), becomes)
            self.assertEqual((told[4][0], told[4][3]), (numbers[0], 1))
            self.assertEqual(told[5:], [told[0], shown(text), told[1]])

    def refused(self, text, label, put, number=-1):
        with self.subTest(text=text, label=label, put=put):
            told = answered(program("(new 3)"), change(1, "4"), change(0, text), counts(), show(), size(),
                            change(label, put), counts(), show(), size(), undo(), undo(), show())
            self.assertGreater(told[2][0], 0)
            self.assertEqual(told[6], [number])
            self.assertEqual(told[7:10], told[3:6])
            self.assertEqual((told[9][3], told[8]), (2, shown(text)))
            self.assertEqual(told[10:], [[2], [2], shown("(new 3)")])


class WhatComes(ChangeCase):
    def test_the_example(self):
        self.changed(EXAMPLE, 12, "(f 5)", EXAMPLE[:-5] + "(f 5)))))", [15, 18, 1, 3])

    def test_of_the_same_length(self):
        self.changed("(fst 1)", 1, "2", "(fst 2)", [2, 0, 1, 1])
        self.changed("(pair 1 2)", 1, "in", "(pair in 2)", [3, 4, 1, 1])
        self.changed("(pair (new 1) 2)", 1, "(new 45)", "(pair (new 45) 2)", [4, 3, 4, 4])
        self.changed("(pair (new 1) 2)", 1, "(fst 1)", "(pair (fst 1) 2)", [4, 3, 4, 1])

    def test_the_same_text_again(self):
        self.changed("(pair 1 2)", 1, "1", "(pair 1 2)", [3, 4, 1, 1])
        self.changed("(pair 1 2)", 0, "(pair 1 2)", "(pair 1 2)", [3, 0, 5, 5])
        self.changed(CALLED, 1, "(fun x x)", CALLED, [6, 3, 5, 5])

    def test_longer(self):
        self.changed("(pair 1 (new 2))", 1, "(fun x x)", "(pair (fun x x) (new 2))", [5, 5, 2, 2])
        self.changed("(pair 1 (new 2))", 1, "(set 3 (add 4 5))", "(pair (set 3 (add 4 5)) (new 2))", [8, 6, 1, 5])

    def test_shorter(self):
        self.changed("(pair (fun x x) (new 2))", 1, "1", "(pair 1 (new 2))", [4, 5, 2, 2])
        self.changed("(pair (set 3 (add 4 5)) (new 2))", 1, "1", "(pair 1 (new 2))", [4, 6, 5, 1])
        self.changed("(pair (set 3 (add 4 5)) (new 2))", 3, "(fun x x)", "(pair (set 3 (fun x x)) (new 2))", [7, 6, 5, 3])

    def test_at_the_first_node(self):
        self.changed("0", 0, "7", "7", [1, 0, 1, 1])
        self.changed("0", 0, EXAMPLE, EXAMPLE, [13, 0, 1, 19])
        self.changed(EXAMPLE, 0, "(new 5)", "(new 5)", [2, 0, 19, 3])
        self.changed("(fun x x)", 0, "(fun y y)", "(fun y y)", [2, 0, 1, 1])

    def test_at_the_last_node(self):
        self.changed(CALLED, 5, "(new 1)", "(let f (fun x x) (f (new 1)))", [7, 3, 5, 7])
        self.changed("(add 1 (fst 2))", 3, "(fst 2)", "(add 1 (fst (fst 2)))", [5, 2, 1, 1])
        self.changed("(add 1 2)", 2, "3", "(add 1 3)", [3, 2, 1, 1])

    def test_facts_that_flow_no_more(self):
        self.changed(CALLED, 4, "2", "(let f (fun x x) (2 1))", [6, 3, 5, 1])

    def test_facts_that_move_with_their_sorts(self):
        self.changed("(pair 1 (fst (pair (fun x x) 2)))", 1, "(new 1)", "(pair (new 1) (fst (pair (fun x x) 2)))",
                     [8, 8, 2, 4])

    def test_each_node_of_a_program(self):
        text = "(let f (fun x x) (f (pair 1 2)))"
        spans = [text, "(fun x x)", "x", "(f (pair 1 2))", "f", "(pair 1 2)", "1", "2"]
        begins = [0, 7, 14, 17, 18, 20, 26, 28]
        for label, (span, begin) in enumerate(zip(spans, begins)):
            for put in ("99", "(if in 5 (add 1 2))"):
                becomes = text[:begin] + put + text[begin + len(span):]
                told = answered(program(text), change(label, put), show())
                self.assertEqual(told[2], shown(becomes), (label, put))
                told = answered(program(text), change(label, span), show())
                self.assertEqual(told[2], shown(text), label)

    def test_all_calls_speak_of_the_changed_program(self):
        asked = [show(), counts(), classes(), class_of(3), set_at(0, 2), set_at(1, 2), set_at(2, 2), set_at(3, 2), arrows(0),
                 arrows(1), arrows(2), arrows(3), ask(0), ask(4)]
        changed = answered(program("(let f 0 (f 1))"), change(1, "(fun x (pair x x))"), *asked, size())
        told = answered(program("(let f (fun x (pair x x)) (f 1))"), *asked, size())
        self.assertEqual(changed[2:-1], told[1:-1])
        self.assertEqual((changed[-1], told[-1]), ([8, 12, 3, 1], [8, 12, 3, 0]))

    def test_a_change_of_a_change(self):
        told = answered(change(0, "(fun x x)"), change(1, "(x x)"), change(2, "(get x)"), change(4, "in"), show(), size())
        self.assertEqual(told, [[2, 0, 1, 1], [4, 1, 0, 0], [5, 1, 0, 0], [5, 1, 0, 1], shown("(fun x ((get x) in))"),
                                [5, 6, 2, 4]])


class BoundNames(ChangeCase):
    TEXT = "(fun f (let g (fun x 1) (pair 2 (fun f 3))))"

    def test_names_that_are_bound_there(self):
        self.changed(self.TEXT, 3, "(f x)", "(fun f (let g (fun x (f x)) (pair 2 (fun f 3))))", [10, 10, 1, 0])
        self.changed(self.TEXT, 5, "(f g)", "(fun f (let g (fun x 1) (pair (f g) (fun f 3))))", [10, 9, 2, 1])
        self.changed(self.TEXT, 7, "(f g)", "(fun f (let g (fun x 1) (pair 2 (fun f (f g)))))", [10, 10, 1, 1])

    def test_names_that_are_not_bound_there(self):
        for label, put in ((0, "f"), (0, "g"), (1, "g"), (1, "x"), (2, "g"), (2, "x"), (3, "g"), (3, "y"), (4, "x"), (5, "x"),
                           (6, "x"), (7, "x"), (7, "(fun y (add y x))"), (5, "(let x 1 (fun y z))"), (5, "(let x x x)")):
            self.refused(self.TEXT, label, put)

    def test_names_that_the_new_expression_binds(self):
        self.changed("0", 0, "(fun x (let y x y))", "(fun x (let y x y))", [4, 0, 1, 1])
        self.changed("(fun x 1)", 1, "(fun y (x y))", "(fun x (fun y (x y)))", [5, 1, 1, 1])

    def test_binders_that_are_replaced(self):
        self.refused("(fun x x)", 0, "x")
        self.changed("(fun x x)", 1, "(fun x x)", "(fun x (fun x x))", [3, 1, 0, 1])

    def test_in_is_bound_everywhere(self):
        for label in range(8):
            self.assertGreater(answered(program(self.TEXT), change(label, "in"))[1][0], 0)


class Limits(ChangeCase):
    def test_30_nodes_and_31(self):
        text = "(add " + add_tree(14) + " 0)"
        self.changed(text, 28, "(fst 1)", "(add " + add_tree(14) + " (fst 1))", [30, 28, 1, 1])
        self.refused(text, 28, "(add 1 1)")
        self.refused(text, 28, "(fst (fst 1))")
        text = "(add " + add_tree(14) + " (fst 1))"
        for label in (3, 28, 29):
            nodes = answered(program(text), change(label, "9"), change(label, "(fst 1)"))
            self.assertGreater(nodes[1][0], 0)
        self.assertEqual(answered(program(text), change(29, "9"))[1], [30, 28, 1, 1])
        self.refused(text, 29, "(fst 9)")
        self.assertEqual(answered(program(text), change(28, "(get 9)"))[1][0], 30)
        self.refused(text, 28, "(add 8 9)")

    def test_30_nodes_and_31_at_the_first_node(self):
        whole = "(fst " + add_tree(15) + ")"
        self.assertEqual(answered(change(0, whole))[0], [30, 0, 1, 29])
        self.refused("0", 0, add_tree(16))
        self.assertEqual(answered(program(whole), change(0, whole))[1], [30, 0, 29, 29])

    def test_in_8_others_and_in_9(self):
        for form in ("fst", "snd", "new", "get", "fun x"):
            text = nested(form, 7, "0")
            told = answered(program(text), change(7, "(" + form + " 1)"), show())
            self.assertEqual(told[1][0], 9)
            self.assertEqual(told[2], shown(nested(form, 8, "1")))
            self.refused(text, 7, nested(form, 2, "1"))
            self.refused(nested(form, 8, "0"), 8, "(add 1 2)")
            self.refused(nested(form, 8, "0"), 1, nested(form, 8, "1"))
            self.assertEqual(answered(program(nested(form, 8, "0")), change(1, nested(form, 7, "1")))[1][0], 9)
        self.assertEqual(answered(change(0, nested("fst", 8, "0")))[0][0], 9)
        self.refused("0", 0, nested("fst", 9, "0"))

    def test_deep_beside_what_is_changed(self):
        text = "(pair " + nested("fst", 7, "0") + " 1)"
        told = answered(program(text), change(9, nested("get", 7, "0")))
        self.assertEqual(told[1][0], 17)
        self.refused(text, 9, nested("get", 8, "0"))


class NoExpressions(ChangeCase):
    def test_texts_that_are_none(self):
        for put in ("", " ", "(", ")", "()", "(1)", "(1 2", "1 2)", "1 2", " 1", "1 ", "01", "100", "X", "abcde", "(fst)",
                    "(fst  1)", "(fun in 1)", "(let if 1 2)", "1\n", "\xff", "\x00", "(pair 1)", "(1 2 3)") + WORDS:
            for label in (0, 1, 2):
                self.refused("(pair 1 2)", label, put)

    def test_texts_that_would_fit_in_between(self):
        for put in ("fst", "snd", "new", "get", "fun x", "pair 1", "add 1", "set 1", "let x 1", "if 1 2"):
            self.refused("(3 4)", 1, put)
        for put in ("x (x x", "x 1) (let x 1"):
            self.refused("(let x (fun y y) ((x 1) x))", 5, put)
        self.refused("(fun x (x 1))", 2, "add x")
        self.refused("(pair (1 2) (3 4))", 3, "2) (3")

    def test_each_byte_alone(self):
        for byte in range(256):
            expected = [1, 0, 1, 1] if 48 <= byte <= 57 else [-1]
            self.assertEqual(answered(change(0, [byte])), [expected], byte)

    def test_2000_bytes(self):
        for put in ("(" * 2000, ")" * 2000, " " * 2000, "1" * 2000, "a" * 2000, "(1 " * 666 + "12", "(fst " * 400,
                    "(" * 999 + "12" + ")" * 999, "\xff" * 2000, EXAMPLE + " " * (2000 - len(EXAMPLE))):
            self.assertEqual(len(put), 2000)
            told = answered(program(EXAMPLE), change(12, put), show(), size())
            self.assertEqual(told[1:], [[-1], shown(EXAMPLE), [13, 19, 4, 0]])


class NoNodes(ChangeCase):
    def test_no_node(self):
        for label in (-1, 6, 7, FAR, -FAR):
            for put in ("1", "", "(", "x", CALLED, nested("fst", 9, "0")):
                self.refused(CALLED, label, put, -3)
        self.assertEqual(answered(change(1, "1"), change(-1, "1"), change(0, "1")), [[-3], [-3], [1, 0, 1, 1]])

    def test_labels_of_the_program_as_it_is_now(self):
        told = answered(program(CALLED), change(3, "1"), change(5, "2"), change(4, "2"), change(3, "2"), undo(), undo(),
                        change(5, "2"))
        self.assertEqual([numbers[0] for numbers in told], [6, 4, -3, -3, 4, 4, 6, 6])


class Undo(unittest.TestCase):
    def test_nothing_is_kept_at_the_beginning(self):
        self.assertEqual(answered(undo(), show(), size(), undo()), [[-4], [1, 48], [1, 1, 1, 0], [-4]])

    def test_nothing_is_kept_behind_a_program(self):
        told = answered(change(0, "1"), change(0, "2"), program("(fst 3)"), undo(), size(), show())
        self.assertEqual(told[2:], [[2], [-4], [2, 2, 1, 0], shown("(fst 3)")])

    def test_a_refused_program_gives_up_nothing(self):
        told = answered(change(0, "(new 1)"), program("(fst 3"), size(), undo(), show(), undo())
        self.assertEqual(told[1:], [[-1], [2, 3, 2, 1], [1], [1, 48], [-4]])

    def test_refused_changes_keep_nothing(self):
        told = answered(change(0, "x"), change(1, "1"), size(), undo())
        self.assertEqual(told, [[-1], [-3], [1, 1, 1, 0], [-4]])

    def test_the_latest_first(self):
        texts = ["1", "(fst 2)", "(pair 3 4)", "(if 5 6 7)"]
        told = answered(*[change(0, text) for text in texts], undo(), show(), undo(), show(), undo(), show(), undo(), show(),
                        undo(), show())
        self.assertEqual(told[4:], [[3], shown("(pair 3 4)"), [2], shown("(fst 2)"), [1], shown("1"), [1], shown("0"),
                                    [-4], shown("0")])

    def test_what_is_undone_is_not_kept(self):
        told = answered(change(0, "1"), undo(), size(), undo(), show(), change(0, "2"), change(0, "3"), undo(),
                        change(0, "4"), size(), undo(), show(), undo(), show(), undo())
        self.assertEqual(told[1:5], [[1], [1, 1, 1, 0], [-4], shown("0")])
        self.assertEqual(told[9:], [[1, 1, 1, 2], [1], shown("2"), [1], shown("0"), [-4]])

    def test_more_changes_than_are_kept_and_as_many_undos(self):
        changes = [change(0, str(number)) for number in range(1, 13)]
        told = answered(*changes, size(), *[undo() for number in range(12)], show(), size())
        self.assertEqual(told[12], [1, 1, 1, 8])
        self.assertEqual(told[13:25], [[1]] * 8 + [[-4]] * 4)
        self.assertEqual(told[25:], [shown("4"), [1, 1, 1, 0]])

    def test_how_many_are_kept(self):
        calls = [call for number in range(1, 11) for call in (change(0, str(number)), size())]
        self.assertEqual([told[3] for told in answered(*calls)[1::2]], [1, 2, 3, 4, 5, 6, 7, 8, 8, 8])

    def test_each_kept_one_of_many(self):
        changes = [change(0, str(number)) for number in range(1, 10)]
        told = answered(*changes, *[call for number in range(8) for call in (undo(), show())], undo())
        self.assertEqual(told[10:26:2], [shown(str(number)) for number in range(8, 0, -1)])
        self.assertEqual(told[-1], [-4])

    def test_8_are_kept_with_the_one_at_the_beginning(self):
        changes = [change(0, str(number)) for number in range(1, 9)]
        told = answered(*changes, *[undo() for number in range(8)], show(), undo())
        self.assertEqual(told[16:], [shown("0"), [-4]])

    def test_all_calls_speak_of_the_program_that_is_back(self):
        asked = [show(), size(), counts(), classes(), class_of(9), set_at(3, 8), arrows(3), ask(7)]
        told = answered(program(EXAMPLE), *asked, change(1, "(new 1)"), change(0, "5"), undo(), undo(), *asked)
        self.assertEqual(told[1:9], told[13:])
        self.assertEqual(told[11:13], [[13], [13]])


if __name__ == "__main__":
    unittest.main()

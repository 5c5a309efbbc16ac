"""Promise 1, program: which texts are programs, how many nodes they have, what a refusal leaves."""

import unittest

from helper import EXAMPLE, add_tree, answered, as_bytes, nested, program, show, size

WORDS = ("fun", "let", "if", "pair", "fst", "snd", "new", "get", "set", "add")


class TextCase(unittest.TestCase):
    def nodes(self, text, expected):
        with self.subTest(text=text):
            self.assertEqual(answered(program(text)), [[expected]])

    def refused(self, text):
        with self.subTest(text=text):
            self.assertEqual(answered(program(text), show()), [[-1], [1, 48]])


class EachForm(TextCase):
    def test_each_form_with_its_nodes(self):
        forms = {
            "7": 1, "in": 1, "(fun x x)": 2, "(1 2)": 3, "(let x 1 x)": 3, "(if 0 1 2)": 4, "(pair 1 2)": 3,
            "(fst 1)": 2, "(snd 1)": 2, "(new 1)": 2, "(get 1)": 2, "(set 1 2)": 3, "(add 1 2)": 3,
            "((fun x x) (fun y y))": 5, "((1 2) (3 4))": 7, "(in in)": 3, EXAMPLE: 13,
        }
        for text, nodes in forms.items():
            self.nodes(text, nodes)

    def test_a_part_too_few_or_too_many(self):
        for word in WORDS:
            self.refused(word)
            self.refused("(" + word + ")")
            self.refused("(" + word + " )")
            self.refused("(" + word + " 1 2 3 4)")
        for text in ("(fst)", "(fst 1 2)", "(snd 1 2)", "(new 1 2)", "(get 1 2)", "(pair 1)", "(pair 1 2 3)",
                     "(set 1)", "(set 1 2 3)", "(add 1)", "(add 1 2 3)", "(if 1 2)", "(let x 1)", "(let x 1 2 3)",
                     "(fun x)", "(fun x 1 2)", "(1)", "(1 2 3)", "()", "((fun x x))", "(fun 1 1)", "(fun (x) 1)",
                     "(let 1 1 1)", "(fun 1)", "(let x x)"):
            self.refused(text)


class Limits(TextCase):
    def test_30_nodes_and_31(self):
        self.nodes("(fst " + add_tree(15) + ")", 30)
        self.nodes(add_tree(15), 29)
        self.refused(add_tree(16))
        self.refused("(add " + add_tree(15) + " (fst 1))")

    def test_the_31st_node_as_a_name_a_number_or_the_given(self):
        fourteen = "(fst " + add_tree(7) + ")"
        for last in ("in", "5", "x"):
            self.nodes("(fun x (add " + fourteen + " (add " + add_tree(6) + " " + last + ")))", 29)
            self.refused("(fun x (add " + fourteen + " (add " + add_tree(7) + " " + last + ")))")

    def test_in_8_others_and_in_9(self):
        for form in ("fst", "snd", "new", "get", "fun x"):
            self.nodes(nested(form, 8, "0"), 9)
            self.refused(nested(form, 9, "0"))
        self.nodes("(1 " * 8 + "0" + ")" * 8, 17)
        self.refused("(1 " * 9 + "0" + ")" * 9)
        self.nodes("(" * 8 + "0" + " 1)" * 8, 17)
        self.refused("(" * 9 + "0" + " 1)" * 9)

    def test_in_9_others_far_behind(self):
        self.nodes("(pair " + nested("fst", 7, "0") + " " + nested("snd", 7, "0") + ")", 17)
        self.refused("(pair " + nested("fst", 7, "0") + " " + nested("snd", 8, "0") + ")")


class Names(TextCase):
    def test_1_to_4_small_letters(self):
        for name in ("a", "z", "ab", "abc", "abcd", "zzzz", "call", "name", "inn", "i", "n", "funs", "ge", "sett", "iff"):
            self.nodes("(fun " + name + " " + name + ")", 2)
            self.nodes("(let " + name + " 1 (" + name + " " + name + "))", 5)

    def test_no_names(self):
        for name in WORDS + ("abcde", "", "X", "aB", "a1", "1a", "1", "a_b", "a-b", "\xe4", "a\x00", "numbers"):
            self.refused("(fun " + name + " 1)")
            self.refused("(let " + name + " 1 1)")
            self.refused("(fun " + name + " " + name + ")")

    def test_no_name_as_an_expression(self):
        for name in WORDS + ("abcde", "X", "a1", "?"):
            self.refused("(fun x (add x " + name + "))")

    def test_in_is_used_but_not_bound(self):
        self.nodes("in", 1)
        self.nodes("(fun x in)", 2)
        self.nodes("(let x in (in x))", 5)
        self.refused("(fun in 1)")
        self.refused("(fun in in)")
        self.refused("(let in 1 1)")
        self.refused("(let in 1 in)")

    def test_a_name_that_is_not_bound(self):
        for text in ("x", "(add x 1)", "(fun x y)", "((fun x x) x)", "(let x x 1)", "(let x x x)",
                     "(add (let x 1 x) x)", "(pair (fun x x) x)", "(let x (fun y 1) y)", "(fun ab a)", "(fun a ab)"):
            self.refused(text)

    def test_bound_further_out(self):
        self.nodes("(fun x (fun y (x y)))", 5)
        self.nodes("(let x 1 (let x x x))", 5)
        self.nodes("(fun x (let y x (if x y x)))", 7)


class Numbers(TextCase):
    def test_from_0_to_99(self):
        for number in range(100):
            self.nodes(str(number), 1)

    def test_no_numbers(self):
        for text in ("100", "101", "999", "1000", "00", "01", "09", "007", "010", "000", "-1", "+1", "-0", "1.0", "1e1",
                     "1_0", "0x1", "\xb2", "\xbd"):
            self.refused(text)
            self.refused("(fst " + text + ")")


class BlanksAndBrackets(TextCase):
    def test_each_blank_doubled_or_gone(self):
        for text in (EXAMPLE, "(if (fst (pair in 1)) (get (new 2)) (set (new 3) (snd 4)))", "((fun x x) (add 5 6))"):
            for at, sign in enumerate(text):
                if sign == " ":
                    self.refused(text[:at] + text[at:].replace(" ", "  ", 1))
                    self.refused(text[:at] + text[at + 1:])

    def test_each_bracket_doubled_or_gone(self):
        for text in (EXAMPLE, "(if (fst (pair in 1)) (get (new 2)) (set (new 3) (snd 4)))", "((fun x x) (add 5 6))"):
            for at, sign in enumerate(text):
                if sign in "()":
                    self.refused(text[:at] + sign + text[at:])
                    self.refused(text[:at] + text[at + 1:])

    def test_blanks_about(self):
        for text in ("1", "(fst 1)", "(1 2)"):
            self.refused(" " + text)
            self.refused(text + " ")
            self.refused(text + "\n")
            self.refused("(" + text + ")")
            self.refused(text + ")")
            self.refused("(" + text)
            self.refused(text + " " + text)
            self.refused(text + text if text != "1" else "1(")
        for text in ("( 1 2)", "(1 2 )", "( fst 1)", "(fst 1 )", "(fst\t1)", "(fst\n1)", "(1,2)", "[fst 1]", "(fst)1",
                     "(fun x(fst x))", "((fst 1)2)", "(pair (fst 1)(fst 1))", "(pair 1(fst 1))", "(fst(fst 1))"):
            self.refused(text)


class Bytes(TextCase):
    def test_the_empty_text(self):
        self.refused("")

    def test_each_byte_alone(self):
        for byte in range(256):
            with self.subTest(byte=byte):
                digit_or_not = 1 if 48 <= byte <= 57 else -1
                self.assertEqual(answered(program([byte])), [[digit_or_not]])

    def test_each_byte_in_a_name_a_number_and_between(self):
        for byte in range(256):
            with self.subTest(byte=byte):
                letter = 97 <= byte <= 122
                digit = 48 <= byte <= 57
                named = as_bytes("(fun q") + [byte] + as_bytes(" 1)")
                numbered = as_bytes("(fst 5") + [byte] + as_bytes(")")
                between = as_bytes("(fst") + [byte] + as_bytes("7)")
                self.assertEqual(answered(program(named)), [[2 if letter else -1]])
                self.assertEqual(answered(program(numbered)), [[2 if digit else -1]])
                self.assertEqual(answered(program(between)), [[2 if byte == 32 else -1]])

    def test_2000_bytes(self):
        begun = "(pair (pair (pair "
        for text in ("(" * 2000, ")" * 2000, " " * 2000, "1" * 2000, "a" * 2000, "0" * 2000, "\xff" * 2000,
                     "\x00" * 2000, "()" * 1000, "(1 " * 666 + "12", "(fst " * 400, "(fun x " * 285 + "12345",
                     "(" * 999 + "12" + ")" * 999, nested("fst", 333, "1") + " ", "(" * 400 + "0" + " 1)" * 533,
                     begun + "1" * (2000 - len(begun)), EXAMPLE + " " * (2000 - len(EXAMPLE)),
                     EXAMPLE + ")" * (2000 - len(EXAMPLE)), "(" * (2000 - len(EXAMPLE)) + EXAMPLE):
            self.assertEqual(len(text), 2000)
            self.refused(text)


class WhatStays(unittest.TestCase):
    def test_a_refusal_leaves_everything(self):
        told = answered(program(EXAMPLE), program("(fst 1"), show(), size(), program(""), size())
        self.assertEqual(told[0], [13])
        self.assertEqual(told[1], [-1])
        self.assertEqual(told[2], [len(EXAMPLE)] + as_bytes(EXAMPLE))
        self.assertEqual(told[3], [13, 19, 4, 0])
        self.assertEqual(told[4:], [[-1], [13, 19, 4, 0]])

    def test_the_last_program_counts(self):
        told = answered(program(EXAMPLE), program("(new 5)"), show(), size(), program("x"), size())
        self.assertEqual(told, [[13], [2], [7] + as_bytes("(new 5)"), [2, 3, 2, 0], [-1], [2, 3, 2, 0]])


if __name__ == "__main__":
    unittest.main()

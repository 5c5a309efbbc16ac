"""Promises 4, arrows, and 5, counts, on all four rungs."""

import unittest

from helper import EXAMPLE, FAR, answered, answered_of, arrows, counts, program, size, twos

REFERENCES = "(let r (new (fun x x)) (let s (set r (fun y (pair y in))) (fst ((get r) 7))))"
ROUNDS = "(let f (fun x x) (pair (f (new 1)) (f f)))"


class Arrows(unittest.TestCase):
    def told(self, text, rung, expected):
        with self.subTest(text=text, rung=rung):
            self.assertEqual(twos(answered_of(text, arrows(rung))[0]), expected)

    def test_the_example(self):
        every = [(7, 1), (7, 4), (10, 1), (10, 4)]
        for rung, expected in enumerate((every, every, [(7, 1), (10, 4)], [(7, 1), (10, 4)])):
            self.told(EXAMPLE, rung, expected)

    def test_through_references_and_pairs(self):
        every = [(12, 2), (12, 7)]
        for rung in range(4):
            self.told(REFERENCES, rung, every)

    def test_no_calls_or_no_functions(self):
        for rung in range(4):
            self.told("(fun x x)", rung, [])
            self.told("(1 2)", rung, [])
            self.told("0", rung, [])
            self.told("((new 1) (pair 2 3))", rung, [])

    def test_calls_of_what_is_no_function(self):
        text = "(pair (1 2) (fun x (x 3)))"
        self.told(text, 0, [(1, 4), (5, 4)])
        for rung in (1, 2, 3):
            self.told(text, rung, [])

    def test_calls_within_calls_rise_by_labels(self):
        text = "((fun x x) ((fun y y) ((fun z z) 1)))"
        funs = (1, 4, 7)
        self.told(text, 0, [(call, fun) for call in (0, 3, 6) for fun in funs])
        self.told(text, 1, [(call, fun) for call in (0, 3, 6) for fun in funs])
        self.told(text, 2, [(0, 1), (3, 4), (6, 7)])
        self.told(text, 3, [(0, 1), (3, 4), (6, 7)])

    def test_functions_are_in_order_among_other_sorts(self):
        text = "((if in (new 1) (if in (fun x 1) (if in (pair 1 2) (fun y 2)))) 3)"
        self.told(text, 3, [(0, 7), (0, 14)])
        self.told(text, 2, [(0, 7), (0, 14)])

    def test_rungs_that_differ(self):
        text = "(let f (fun x x) (let g (if in f (fun y 1)) (pair (f 1) (g 2))))"
        self.told(text, 3, [(10, 1), (13, 1), (13, 7)])
        self.told(text, 2, [(10, 1), (10, 7), (13, 1), (13, 7)])

    def test_refusals(self):
        for rung in (-1, 4, 5, FAR, -FAR):
            told = answered(program(EXAMPLE), arrows(rung), size())
            self.assertEqual(told[1:], [[-2], [13, 19, 4, 0]])

    def test_at_the_beginning(self):
        self.assertEqual(answered(arrows(0), arrows(3), arrows(4)), [[0], [0], [-2]])


class Counts(unittest.TestCase):
    def told(self, text, expected):
        with self.subTest(text=text):
            self.assertEqual(answered_of(text, counts()), [expected])

    def test_the_example(self):
        self.told(EXAMPLE, [76, 4, 25, 4, 19, 2, 19, 2])

    def test_at_the_beginning(self):
        self.assertEqual(answered(counts()), [[1, 0, 1, 0, 1, 0, 1, 0]])

    def test_single_forms(self):
        self.told("(fun x x)", [6, 0, 1, 0, 1, 0, 1, 0])
        self.told("(pair 1 2)", [10, 0, 5, 0, 5, 0, 5, 0])
        self.told("(new 1)", [6, 0, 3, 0, 3, 0, 3, 0])
        self.told("(1 2)", [3, 0, 2, 0, 2, 0, 2, 0])
        self.told("(if in (fun x 1) (new 2))", [24, 0, 8, 0, 10, 0, 8, 0])

    def test_classes_put_together_in_several_rounds(self):
        self.told(ROUNDS, [64, 2, 22, 2, 28, 2, 22, 2])

    def test_through_references(self):
        self.told(REFERENCES, [115, 2, 30, 2, 40, 2, 26, 2])

    def test_rungs_whose_arrows_differ(self):
        told = answered_of("(let f (fun x x) (let g (if in f (fun y 1)) (pair (f 1) (g (2 3)))))", counts())[0]
        self.assertEqual(told[1::2], [6, 4, 4, 3])


if __name__ == "__main__":
    unittest.main()

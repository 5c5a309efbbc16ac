"""Promises 6, class, and 7, classes."""

import unittest

from helper import EXAMPLE, FAR, answered, answered_of, class_of, classes, program, size, twos


class ClassCase(unittest.TestCase):
    def told(self, text, expected, unnamed=0):
        """expected: the classes that have a node; unnamed: how many have none."""
        for places in expected:
            for kind, label in places:
                if kind == 0:
                    with self.subTest(text=text, label=label):
                        self.assertEqual(twos(answered_of(text, class_of(label))[0]), places)
        largest = max([len(places) for places in expected])
        self.assertEqual(answered_of(text, classes()), [[len(expected) + unnamed, largest]], text)


class Classes(ClassCase):
    def test_the_example(self):
        self.told(EXAMPLE, [
            [(0, 0), (0, 3), (0, 6)],
            [(0, 1), (0, 8), (1, 0)],
            [(0, 2), (0, 7), (0, 9), (1, 1), (2, 6)],
            [(0, 4), (0, 11), (1, 3)],
            [(0, 5), (0, 10), (3, 6)],
            [(0, 12), (1, 4)],
        ])

    def test_single_forms(self):
        self.told("0", [[(0, 0)]])
        self.told("in", [[(0, 0)]])
        self.told("(add 1 2)", [[(0, 0)], [(0, 1)], [(0, 2)]])
        self.told("(fun x x)", [[(0, 0)], [(0, 1), (1, 0)]])
        self.told("(fun x 1)", [[(0, 0)], [(0, 1)]], 1)
        self.told("(1 2)", [[(0, 0)], [(0, 1)], [(0, 2)]])
        self.told("(let x 1 2)", [[(0, 0), (0, 2)], [(0, 1), (1, 0)]])
        self.told("(if 1 2 3)", [[(0, 0), (0, 2), (0, 3)], [(0, 1)]])
        self.told("(pair 1 2)", [[(0, 0)], [(0, 1), (2, 0)], [(0, 2), (3, 0)]])
        self.told("(new 1)", [[(0, 0)], [(0, 1), (4, 0)]])
        self.told("(fst 1)", [[(0, 0)], [(0, 1)]])
        self.told("(snd 1)", [[(0, 0)], [(0, 1)]])
        self.told("(get 1)", [[(0, 0)], [(0, 1)]])
        self.told("(set 1 2)", [[(0, 0), (0, 2)], [(0, 1)]])

    def test_ways_by_facts(self):
        self.told("(fst (pair 1 2))", [[(0, 0), (0, 2), (2, 1)], [(0, 1)], [(0, 3), (3, 1)]])
        self.told("(snd (pair 1 2))", [[(0, 0), (0, 3), (3, 1)], [(0, 1)], [(0, 2), (2, 1)]])
        self.told("(get (new 1))", [[(0, 0), (0, 2), (4, 1)], [(0, 1)]])
        self.told("(set (new 1) 2)", [[(0, 0), (0, 2), (0, 3), (4, 1)], [(0, 1)]])
        self.told("((fun x 1) 2)", [[(0, 0), (0, 2)], [(0, 1)], [(0, 3), (1, 1)]])

    def test_a_second_round(self):
        # Only when the name f and the call's function stand in one class does its function come to the call.
        self.told("(let f (fun x 1) (f 2))", [
            [(0, 0), (0, 2), (0, 3)], [(0, 1), (0, 4), (1, 0)], [(0, 5), (1, 1)],
        ])

    def test_many_rounds(self):
        text = "(let a (fun x x) (let b (a (fun y (pair y y))) (let c (fst (b (new 1))) (get c))))"
        self.told(text, [
            [(0, 0), (0, 3), (0, 10), (0, 15), (0, 16), (4, 14)],
            [(0, 1), (0, 5), (1, 0)],
            [(0, 2), (0, 4), (0, 6), (0, 13), (1, 1), (1, 3)],
            [(0, 7), (0, 12)],
            [(0, 8), (0, 9), (0, 11), (0, 14), (0, 17), (1, 6), (1, 10), (2, 7), (3, 7)],
        ])

    def test_whatever_flows_one_way_flows_both_ways(self):
        text = "(let f (fun x x) (pair (f (new 1)) (f f)))"
        self.told(text, [
            [(0, 0), (0, 3)],
            [(0, 1), (0, 2), (0, 4), (0, 5), (0, 6), (0, 8), (0, 9), (0, 10), (1, 0), (1, 1), (2, 3), (3, 3)],
            [(0, 7), (4, 6)],
        ])

    def test_functions_pairs_and_references_together(self):
        text = "(let r (new (fun x x)) (let s (set r (fun y (pair y in))) (fst ((get r) 7))))"
        self.told(text, [
            [(0, 0), (0, 3), (0, 4), (0, 8), (0, 9), (0, 11), (0, 12), (0, 15), (1, 2), (1, 7), (2, 8)],
            [(0, 1), (0, 6), (0, 14), (1, 0)],
            [(0, 2), (0, 5), (0, 7), (0, 13), (1, 4), (4, 1)],
            [(0, 10), (3, 8)],
        ])

    def test_at_the_beginning(self):
        self.assertEqual(answered(class_of(0), classes(), class_of(1)), [[1, 0, 0], [1, 1], [-3]])

    def test_refusals(self):
        for label in (-1, 13, 14, FAR, -FAR):
            told = answered(program(EXAMPLE), class_of(label), size())
            self.assertEqual(told[1:], [[-3], [13, 19, 4, 0]])


if __name__ == "__main__":
    unittest.main()

"""Promise 3, set, on all four rungs."""

import unittest

from helper import EXAMPLE, FAR, answered, answered_of, program, set_at, size, twos

NUMBER = (0, 0)


def fun(label):
    return (1, label)


def pair(label):
    return (2, label)


def ref(label):
    return (3, label)


class SetCase(unittest.TestCase):
    def sets(self, text, rung, expected):
        """expected: from labels to the sorts there, in order."""
        told = answered_of(text, *[set_at(rung, label) for label in expected])
        found = {label: twos(numbers) for label, numbers in zip(expected, told)}
        self.assertEqual(found, expected, (text, rung))


class Least(SetCase):
    def test_what_nodes_need_by_themselves(self):
        self.sets("0", 3, {0: [NUMBER]})
        self.sets("in", 3, {0: [NUMBER]})
        self.sets("(add in 99)", 3, {0: [NUMBER], 1: [NUMBER], 2: [NUMBER]})
        self.sets("(fun x x)", 3, {0: [fun(0)], 1: []})
        self.sets("(pair 1 2)", 3, {0: [pair(0)], 1: [NUMBER], 2: [NUMBER]})
        self.sets("(new 1)", 3, {0: [ref(0)], 1: [NUMBER]})

    def test_an_add_gives_numbers_whatever_its_parts_are(self):
        self.sets("(add (fun x 1) (new 2))", 3, {0: [NUMBER]})

    def test_an_if_gives_both_but_not_its_first_part(self):
        self.sets("(if (pair 1 2) (fun x 1) (new 2))", 3, {0: [fun(4), ref(6)], 1: [pair(1)]})
        self.sets("(if 0 (new 1) (fun x 1))", 3, {0: [ref(2), fun(4)]})

    def test_a_let_gives_its_body(self):
        self.sets("(let x (fun y 1) (pair x 2))", 3, {0: [pair(3)], 1: [fun(1)], 3: [pair(3)], 4: [fun(1)]})

    def test_a_call_of_no_function_gives_nothing(self):
        self.sets("(1 2)", 3, {0: [], 1: [NUMBER], 2: [NUMBER]})
        self.sets("((pair 1 2) 3)", 3, {0: []})

    def test_a_call_gives_what_its_functions_give(self):
        self.sets("((fun x (pair x 1)) (new 2))", 3, {0: [pair(2)], 1: [fun(1)], 3: [ref(5)]})
        self.sets("((if in (fun x x) (fun y 1)) (new 2))", 3, {0: [NUMBER, ref(7)], 1: [fun(3), fun(5)], 4: [ref(7)]})

    def test_parts_of_pairs(self):
        self.sets("(fst (pair (fun x 1) (new 2)))", 3, {0: [fun(2)], 1: [pair(1)]})
        self.sets("(snd (pair (fun x 1) (new 2)))", 3, {0: [ref(4)], 1: [pair(1)]})
        self.sets("(fst (fst (pair (pair 1 (new 2)) 3)))", 3, {0: [NUMBER], 1: [pair(3)]})
        self.sets("(snd 1)", 3, {0: []})
        self.sets("(fst (fun x 1))", 3, {0: []})
        self.sets("(fst (new 1))", 3, {0: []})

    def test_pairs_of_several_makers(self):
        self.sets("(fst (if in (pair 1 (new 2)) (pair (fun x 3) 4)))", 3, {0: [NUMBER, fun(8)], 1: [pair(3), pair(7)]})

    def test_references(self):
        self.sets("(get (new (fun x 1)))", 3, {0: [fun(2)], 1: [ref(1)]})
        self.sets("(get 1)", 3, {0: []})
        self.sets("(get (pair 1 2))", 3, {0: []})
        self.sets("(set (new 1) (fun x 1))", 3, {0: [fun(3)], 1: [ref(1)]})
        self.sets("(set 1 (fun x 1))", 3, {0: [fun(2)]})

    def test_what_is_set_is_got_also_where_got_before(self):
        text = "(let r (new 0) (pair (get r) (set r (fun x 1))))"
        self.sets(text, 3, {0: [pair(3)], 1: [ref(1)], 4: [NUMBER, fun(8)], 6: [fun(8)], 7: [ref(1)]})

    def test_a_reference_in_itself(self):
        text = "(let r (new 0) (let s (set r r) (get (get r))))"
        self.sets(text, 3, {0: [NUMBER, ref(1)], 4: [ref(1)], 7: [NUMBER, ref(1)], 8: [NUMBER, ref(1)], 9: [ref(1)]})

    def test_functions_through_references_and_pairs(self):
        text = "(let r (new (fun x x)) (let s (set r (fun y (pair y in))) (fst ((get r) 7))))"
        self.sets(text, 3, {
            1: [ref(1)], 3: [NUMBER], 5: [fun(7)], 8: [pair(8)], 9: [NUMBER],
            11: [NUMBER], 12: [NUMBER, pair(8)], 13: [fun(2), fun(7)], 0: [NUMBER],
        })

    def test_a_function_that_is_never_called(self):
        self.sets("(fun x (x (new x)))", 3, {0: [fun(0)], 1: [], 2: [], 3: [ref(3)], 4: []})

    def test_self_application(self):
        text = "((fun x (x x)) (fun y (y y)))"
        self.sets(text, 3, {0: [], 2: [], 3: [fun(5)], 5: [fun(5)], 6: [], 7: [fun(5)], 8: [fun(5)]})

    def test_the_innermost_binder(self):
        self.sets("(let x (new 1) (let x (pair 2 3) x))", 3, {7: [pair(4)]})
        self.sets("(let x (new 1) (let x (pair x 3) x))", 3, {5: [ref(1)], 7: [pair(4)], 0: [pair(4)]})
        self.sets("(let x (new 1) ((fun x (fun x x)) (pair 2 3)))", 3, {6: [], 3: [fun(5)]})
        self.sets("(let x (new 1) (add ((fun x x) 5) x))", 3, {6: [NUMBER], 8: [ref(1)]})


class Coarser(SetCase):
    TEXT = "(let f (fun x x) (let r (new f) (pair (f 1) (get r))))"

    def test_everything_everywhere(self):
        everything = [NUMBER, fun(1), ref(4), pair(6)]
        self.sets(self.TEXT, 0, {label: everything for label in range(12)})

    def test_by_kinds(self):
        text = "(let f (fun x 1) (let g (fun y y) (pair (new f) (new (g (pair 1 2))))))"
        functions = [fun(1), fun(4)]
        pairs = [pair(6), pair(12)]
        references = [ref(7), ref(9)]
        self.sets(text, 1, {
            0: pairs, 1: functions, 2: [NUMBER], 5: pairs, 6: pairs, 7: references, 8: functions,
            9: references, 10: pairs, 11: functions, 12: pairs, 13: [NUMBER],
        })
        self.sets("(fun x x)", 1, {0: [fun(0)], 1: []})

    def test_by_kinds_of_several_kinds(self):
        self.sets("(pair (if in 1 (fun x x)) (fun y y))", 1, {0: [pair(0)], 1: [NUMBER, fun(4), fun(6)]})

    def test_both_ways(self):
        self.sets("(if in (fun x 1) (new 2))", 2, {0: [fun(2), ref(4)], 1: [NUMBER], 2: [fun(2), ref(4)],
                                                  4: [fun(2), ref(4)], 3: [NUMBER], 5: [NUMBER]})
        self.sets("(fun x x)", 2, {0: [fun(0)], 1: []})

    def test_both_ways_in_several_rounds(self):
        text = "(let f (fun x x) (pair (f (new 1)) (f f)))"
        mixed = [fun(1), ref(6)]
        self.sets(text, 2, {0: [pair(3)], 1: mixed, 2: mixed, 4: mixed, 5: mixed, 6: mixed, 7: [NUMBER],
                            8: mixed, 9: mixed, 10: mixed})

    def test_the_example(self):
        self.sets(EXAMPLE, 0, {8: [NUMBER, fun(1), fun(4), pair(6)]})
        self.sets(EXAMPLE, 1, {8: [fun(1), fun(4)]})
        self.sets(EXAMPLE, 2, {8: [fun(1)]})
        self.sets(EXAMPLE, 3, {8: [fun(1)]})


class Refusals(unittest.TestCase):
    def test_rungs(self):
        for rung in (-1, 4, 5, FAR, -FAR):
            for label in (0, 12, 13, -1, FAR, -FAR):
                self.assertEqual(answered(program(EXAMPLE), set_at(rung, label))[1], [-2])

    def test_nodes(self):
        for rung in range(4):
            for label in (-1, 13, 14, FAR, -FAR):
                self.assertEqual(answered(program(EXAMPLE), set_at(rung, label))[1], [-3])
            self.assertGreater(answered(program(EXAMPLE), set_at(rung, 12))[1][0], 0)

    def test_of_the_beginning(self):
        told = answered(set_at(0, 0), set_at(3, 1), set_at(4, 1), set_at(-1, 0), size())
        self.assertEqual(told, [[1, 0, 0], [-3], [-2], [-2], [1, 1, 1, 0]])


if __name__ == "__main__":
    unittest.main()

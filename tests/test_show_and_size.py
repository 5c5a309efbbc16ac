"""Promises 2, show, and 13, size; and how an object is at a line's beginning."""

import unittest

from helper import EXAMPLE, add_tree, answered, as_bytes, nested, program, show, size


class Show(unittest.TestCase):
    def test_at_the_beginning(self):
        self.assertEqual(answered(show()), [[1, 48]])

    def test_the_text_as_it_was(self):
        for text in ("0", "99", "in", EXAMPLE, "(let abcd (fun x (x x)) (if in (set (new abcd) 3) (add 1 10)))",
                     nested("snd", 8, "42"), "(fst " + add_tree(15) + ")"):
            with self.subTest(text=text):
                self.assertEqual(answered(program(text), show())[1], [len(text)] + as_bytes(text))

    def test_it_changes_nothing(self):
        told = answered(program("(1 2)"), show(), show(), size())
        self.assertEqual(told[1], told[2])
        self.assertEqual(told[3], [3, 3, 1, 0])


class Size(unittest.TestCase):
    def test_at_the_beginning(self):
        self.assertEqual(answered(size()), [[1, 1, 1, 0]])

    def test_places_and_sorts_of_each_form(self):
        expected = {
            "in": [1, 1, 1, 0], "(fun x x)": [2, 3, 2, 0], "(1 2)": [3, 3, 1, 0], "(let x 1 x)": [3, 4, 1, 0],
            "(if 0 1 2)": [4, 4, 1, 0], "(pair 1 2)": [3, 5, 2, 0], "(fst 1)": [2, 2, 1, 0], "(snd 1)": [2, 2, 1, 0],
            "(new 1)": [2, 3, 2, 0], "(get 1)": [2, 2, 1, 0], "(set 1 2)": [3, 3, 1, 0], "(add 1 2)": [3, 3, 1, 0],
            EXAMPLE: [13, 19, 4, 0],
            "(let r (new (fun x (pair x x))) (set r (new 1)))": [10, 16, 5, 0],
        }
        for text, told in expected.items():
            with self.subTest(text=text):
                self.assertEqual(answered(program(text), size())[1], told)

    def test_no_programs_are_kept(self):
        told = answered(program("1"), program("(fst 1)"), program("2"), size())
        self.assertEqual(told[3], [1, 1, 1, 0])


if __name__ == "__main__":
    unittest.main()

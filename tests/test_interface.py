"""The interface: lines of calls, what's handed in and what's given back; and the document's example."""

import inspect
import unittest

from coarserflows import ladder
from coarserflows.ladder import answers
from helper import EXAMPLE, FAR, answered, arrows, as_bytes, ask, change, class_of, classes, counts, funs, in_line
from helper import looked, program, set_at, show, size, undo


class Example(unittest.TestCase):
    def test_whole(self):
        told = answered(program(EXAMPLE), counts(), set_at(1, 8), set_at(3, 8), class_of(9), classes(), ask(7), funs(7),
                        looked(8), funs(8), change(12, "(f 5)"), arrows(3), undo(), size())
        self.assertEqual(told, [
            [13],
            [76, 4, 25, 4, 19, 2, 19, 2],
            [2, 1, 1, 1, 4],
            [1, 1, 1],
            [5, 0, 2, 0, 7, 0, 9, 1, 1, 2, 6],
            [6, 5],
            [1, 0, 0, 10],
            [1, 1, 3],
            [3, 0, 1, 0, 8, 1, 0],
            [-5],
            [15, 18, 1, 3],
            [3, 7, 1, 10, 4, 12, 1],
            [13],
            [13, 19, 4, 0],
        ])


class Lines(unittest.TestCase):
    def test_names_and_arguments(self):
        self.assertEqual(list(inspect.signature(ladder.answers).parameters), ["calls"])

    def test_numbers_as_they_stand(self):
        text = list(b"(new 5)")
        line = [0, 7] + text + [1, 2, 3, 0, 3, 3, 4, 5, 1, 6, 12, 7, 0, 9, 1, 10, 1, 2, 49, 50, 8, 0, 11]
        self.assertEqual(answers(line), [
            1, 2,
            8, 7] + text + [
            3, 1, 3, 0,
            1, 0,
            8, 6, 0, 3, 0, 3, 0, 3, 0,
            5, 2, 0, 1, 4, 0,
            2, 2, 2,
            4, 2, 3, 2, 0,
            4, 1, 3, 0, 1,
            3, 1, 0, 1,
            4, 2, 2, 1, 1,
            1, -5,
            1, 2,
        ])

    def test_refusals_as_they_stand(self):
        self.assertEqual(answers([0, 0, 2, 4, 9, 2, 0, 9, 3, -1, 5, -1]), [1, -1, 1, -2, 1, -3, 1, -2, 1, -3])
        self.assertEqual(answers([7, 9, 8, 9, 8, 0, 9, -1, 10, 1, 0, 10, 0, 0, 11]),
                         [1, -3, 1, -3, 1, -5, 1, -3, 1, -3, 1, -1, 1, -4])

    def test_each_call_alone(self):
        for call, told in ((program("(1 2)"), [3]), (show(), [1, 48]), (set_at(3, 0), [1, 0, 0]), (arrows(0), [0]),
                           (counts(), [1, 0] * 4), (class_of(0), [1, 0, 0]), (classes(), [1, 1]), (size(), [1, 1, 1, 0]),
                           (ask(0), [1, 0, 0, 1]), (funs(0), [-5]), (looked(0), [1, 0, 0]), (undo(), [-4]),
                           (change(0, "(new in)"), [2, 0, 1, 3])):
            self.assertEqual(answers(in_line(call)), [len(told)] + told)

    def test_30_calls(self):
        calls = [program(EXAMPLE)] + [set_at(3, label) for label in range(13)] + [arrows(rung) for rung in range(4)]
        calls += [program("(fst"), program("(fun f (f f))")] + [class_of(label) for label in range(4)]
        calls += [show(), size(), counts(), classes(), arrows(9), show()]
        self.assertEqual(len(calls), 30)
        told = answered(*calls)
        self.assertEqual(len(told), 30)
        self.assertEqual(told[18:20], [[-1], [4]])
        self.assertEqual(told[24], [13] + as_bytes("(fun f (f f))"))
        self.assertEqual(told[28:], [[-2], told[24]])

    def test_long_lines(self):
        texts = ["(" * 2000, "(fst " * 400, " " * 2000, "(1 " * 666, "z" * 2000, "1" * 2000, ")" * 2000, "(fun x " * 285]
        told = answered(*[program(text) for text in texts], size())
        self.assertEqual(told, [[-1]] * 8 + [[1, 1, 1, 0]])
        told = answered(*[change(0, text) for text in texts], size())
        self.assertEqual(told, [[-1]] * 8 + [[1, 1, 1, 0]])

    def test_what_is_asked_changes_nothing(self):
        asked = [show(), set_at(0, 3), set_at(1, 3), set_at(2, 3), set_at(3, 3), arrows(0), arrows(2), counts(),
                 class_of(2), classes(), size(), set_at(4, 0), set_at(0, 40), arrows(7), class_of(40)]
        told = answered(program(EXAMPLE), *asked[:14], *asked[:14])
        self.assertEqual(told[1:15], told[15:])
        asked = [ask(7), ask(0), funs(7), funs(10), looked(8), looked(2), ask(13), funs(8), looked(-1), undo(), show(),
                 change(13, "1"), change(12, "x"), size()]
        told = answered(program(EXAMPLE), *asked, *asked)
        self.assertEqual(told[1:15], told[15:])

    def test_a_new_object_at_each_beginning(self):
        line = in_line(program(EXAMPLE), change(12, "(f 5)"), ask(7), size())
        first = answers(line)
        self.assertEqual(answers(in_line(show(), size(), undo())), [2, 1, 48, 4, 1, 1, 1, 0, 1, -4])
        self.assertEqual(answers(line), first)

    def test_what_is_handed_in_stays_the_same(self):
        line = in_line(program(EXAMPLE), show(), program("(x"), set_at(2, 5), set_at(FAR, -FAR), arrows(1), counts(),
                       class_of(3), classes(), size(), ask(7), funs(7), looked(7), change(12, "(f 5)"), change(1, "("),
                       undo(), undo(), change(0, "(new 1)"), show())
        copy = list(line)
        answers(line)
        self.assertEqual(line, copy)

    def test_what_is_given_back_is_the_callers(self):
        line = in_line(program(EXAMPLE), show(), counts(), change(1, "(new 1)"), show(), undo(), show())
        first = answers(line)
        copy = list(first)
        first.clear()
        self.assertEqual(answers(line), copy)

    def test_whole_numbers_alone(self):
        told = answers(in_line(program(EXAMPLE), show(), set_at(0, 0), arrows(3), counts(), class_of(0), classes(), size(),
                               set_at(9, 9), program(""), ask(7), funs(7), looked(0), change(12, "(f 5)"), change(0, ""),
                               undo(), undo(), funs(0), ask(99)))
        self.assertEqual({number.__class__ for number in told}, {int})
        self.assertIs(told.__class__, list)

    def test_only_refusals_are_below_0(self):
        for numbers in answered(program(EXAMPLE), counts(), program(")"), arrows(-5), class_of(-1), show(), ask(0),
                                ask(-1), funs(7), funs(6), looked(12), looked(13), change(0, "1"), change(0, ""), undo(),
                                undo(), size()):
            self.assertTrue(min(numbers) >= 0 or len(numbers) == 1)


if __name__ == "__main__":
    unittest.main()

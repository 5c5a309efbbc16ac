"""Puts calls together as the interface has them, and takes its answers apart again."""

from coarserflows.ladder import answers

MOST_CALLS = 30
MOST_NUMBERS = 17000
FAR = 10 ** 18
EXAMPLE = "(let f (fun x x) (let g (fun y 1) (pair (f 2) (g 3))))"


def as_bytes(text):
    return list(text.encode("latin-1")) if isinstance(text, str) else list(text)


def program(text):
    row = as_bytes(text)
    return [0, len(row)] + row


def show():
    return [1]


def set_at(rung, label):
    return [2, rung, label]


def arrows(rung):
    return [3, rung]


def counts():
    return [4]


def class_of(label):
    return [5, label]


def classes():
    return [6]


def ask(label):
    return [7, label]


def funs(label):
    return [8, label]


def looked(label):
    return [9, label]


def change(label, text):
    row = as_bytes(text)
    return [10, label, len(row)] + row


def undo():
    return [11]


def size():
    return [12]


def shown(text):
    """What show answers of a program's text."""
    return [len(text)] + as_bytes(text)


def in_line(*calls):
    line = [number for call in calls for number in call]
    if not 1 <= len(calls) <= MOST_CALLS or len(line) > MOST_NUMBERS:
        raise ValueError("no such line is handed in")
    return line


def taken_apart(numbers):
    told = []
    at = 0
    while at < len(numbers):
        length = numbers[at]
        told.append(numbers[at + 1:at + 1 + length])
        at += 1 + length
    if at != len(numbers):
        raise ValueError("the last answer is cut off")
    return told


def answered(*calls):
    return taken_apart(answers(in_line(*calls)))


def answered_of(text, *calls):
    """The answers to calls on the program text, which must be one; in as many lines as that takes."""
    told = []
    for begin in range(0, len(calls), MOST_CALLS - 1):
        line = answered(program(text), *calls[begin:begin + MOST_CALLS - 1])
        if line[0][0] < 0:
            raise ValueError("no program: " + repr(text))
        told.extend(line[1:])
    return told


def twos(numbers):
    """What stands behind a count, two by two."""
    if len(numbers) != 1 + 2 * numbers[0]:
        raise ValueError("the count is wrong: " + repr(numbers))
    return [(numbers[at], numbers[at + 1]) for at in range(1, len(numbers), 2)]


def nested(form, times, inside):
    return ("(" + form + " ") * times + inside + ")" * times


def add_tree(leaves):
    """An add of as many numbers as told, nested as little as may be: 2 * leaves - 1 nodes."""
    if leaves == 1:
        return "1"
    return "(add " + add_tree(leaves // 2) + " " + add_tree(leaves - leaves // 2) + ")"

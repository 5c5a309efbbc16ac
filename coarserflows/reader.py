"""Reads the text of an expression into its nodes, which stand in the order of their labels."""

from coarserflows.refusals import NoProgram

SIGNS = " ()0123456789abcdefghijklmnopqrstuvwxyz"
NO_SIGN = "?"
NUMBER = "a number"
USED_NAME = "a name"
CALL = "a call"
GIVEN = "in"
# A call has no word of its own; its key has a blank in it, so no word of a text is like it.
PARTS = {
    "fun": 1, "let": 2, "if": 3, "pair": 2, "fst": 1, "snd": 1,
    "new": 1, "get": 1, "set": 2, "add": 2, "a call": 2,
}
BINDERS = ("fun", "let")
MOST_LETTERS = 4
MOST_DIGITS = 2
MOST_NODES = 30
MOST_AROUND = 8


class Node:
    def __init__(self, form, word):
        self.form = form
        # The number itself, the name that's used or the name that's bound; else nothing.
        self.word = word
        self.parent = None
        self.parts = []
        # Where in the text it begins, and where what stands behind it does.
        self.begin = 0
        self.end = 0


class Reading:
    def __init__(self, words):
        self.words = words
        self.at = 0
        self.signs_taken = 0
        self.nodes = []
        # The labels of the nodes whose brackets are not shut yet, the innermost one last.
        self.around = []

    def peek(self):
        if self.at == len(self.words):
            return ""
        return self.words[self.at]

    def take(self):
        word = self.peek()
        self.at = min(self.at + 1, len(self.words))
        self.signs_taken += len(word)
        return word

    def pass_over(self, word):
        if self.take() != word:
            raise NoProgram()

    def begin_node(self):
        # Looked at here, so that a text that nests very deep is given up early.
        if len(self.nodes) == MOST_NODES or len(self.around) > MOST_AROUND:
            raise NoProgram()
        begin = self.signs_taken
        node = self.read_head()
        node.begin = begin
        node.end = self.signs_taken
        label = len(self.nodes)
        if self.around:
            node.parent = self.around[-1]
            self.nodes[node.parent].parts.append(label)
        self.nodes.append(node)
        if node.form in PARTS:
            self.around.append(label)

    def read_head(self):
        word = self.take()
        if word == "(":
            return self.read_bracketed_head()
        if is_number(word):
            return Node(NUMBER, word)
        if word == GIVEN:
            return Node(GIVEN, "")
        if is_name(word):
            return Node(USED_NAME, word)
        raise NoProgram()

    def read_bracketed_head(self):
        form = self.peek()
        if form not in PARTS:
            return Node(CALL, "")
        self.pass_over(form)
        if form not in BINDERS:
            return Node(form, "")
        self.pass_over(" ")
        bound = self.take()
        if bound == GIVEN or not is_name(bound):
            raise NoProgram()
        return Node(form, bound)

    def read_on(self):
        inner = self.nodes[self.around[-1]]
        if len(inner.parts) == PARTS[inner.form]:
            self.pass_over(")")
            inner.end = self.signs_taken
            self.around.pop()
            return
        # A call's function follows its bracket at once.
        if inner.form != CALL or inner.parts:
            self.pass_over(" ")
        self.begin_node()


def is_number(word):
    if word == "0":
        return True
    return word.isdigit() and len(word) <= MOST_DIGITS and word[0] != "0"


def is_name(word):
    return word.isalpha() and len(word) <= MOST_LETTERS and word not in PARTS


def signs_of(text):
    sign_of = {}
    for sign in SIGNS:
        sign_of[ord(sign)] = sign
    return "".join([sign_of.get(byte, NO_SIGN) for byte in text])


def words_of(signs):
    words = []
    begun = ""
    for sign in signs:
        if sign not in " ()":
            begun += sign
            continue
        if begun != "":
            words.append(begun)
            begun = ""
        words.append(sign)
    if begun != "":
        words.append(begun)
    return words


def read_expression(text):
    reading = Reading(words_of(signs_of(text)))
    reading.begin_node()
    while reading.around:
        reading.read_on()
    if reading.at < len(reading.words):
        raise NoProgram()
    return reading.nodes

"""Holds the program against a second reckoning of the document's words, and against runs, on many programs.

The reckoning here is written in another way on purpose: recursion, trees, facts in one set.
"""

import random
import re
import unittest

from helper import answered, answered_of, arrows, as_bytes, class_of, classes, counts, program, set_at, size, twos

PARTS = {"fun": 1, "let": 2, "if": 3, "pair": 2, "fst": 1, "snd": 1, "new": 1, "get": 1, "set": 2, "add": 2}
MAKERS = {"fun": 1, "pair": 2, "new": 3}
NAME = re.compile(r"[a-z]{1,4}(?![a-z0-9])")
NUMBER = re.compile(r"(0|[1-9][0-9]?)(?![a-z0-9])")


class Wrong(Exception):
    pass


class Tree:
    def __init__(self, form, word, parts):
        self.form, self.word, self.parts = form, word, parts


def parsed(text, at, names, depth):
    """The expression that begins at at, and where it ends."""
    if depth > 8:
        raise Wrong
    found = NUMBER.match(text, at)
    if found:
        return Tree("number", int(found.group()), []), found.end()
    found = NAME.match(text, at)
    if found:
        word = found.group()
        if word in PARTS or (word != "in" and word not in names):
            raise Wrong
        return Tree("in" if word == "in" else "name", word, []), found.end()
    if text[at:at + 1] != "(":
        raise Wrong
    at += 1
    found = NAME.match(text, at)
    form = found.group() if found and found.group() in PARTS else "call"
    blanks_before_first = form != "call"
    bound = None
    if form != "call":
        at = found.end()
    if form in ("fun", "let"):
        found = NAME.match(text, at + 1)
        if text[at:at + 1] != " " or not found or found.group() in PARTS or found.group() == "in":
            raise Wrong
        bound, at = found.group(), found.end()
    parts = []
    for number in range(PARTS.get(form, 2)):
        if parts or blanks_before_first:
            if text[at:at + 1] != " ":
                raise Wrong
            at += 1
        inner = names | {bound} if form == "fun" or (form == "let" and number == 1) else names
        part, at = parsed(text, at, inner, depth + 1)
        parts.append(part)
    if text[at:at + 1] != ")":
        raise Wrong
    return Tree(form, bound, parts), at + 1


def preorder(tree):
    trees = [tree]
    for part in tree.parts:
        trees.extend(preorder(part))
    return trees


def tree_of(text):
    """The tree of a program's text, or None."""
    try:
        tree, end = parsed(text, 0, frozenset(), 0)
    except Wrong:
        return None
    return tree if end == len(text) and len(preorder(tree)) <= 30 else None


class Model:
    def __init__(self, text):
        self.root = tree_of(text)
        self.trees = preorder(self.root)
        for label, tree in enumerate(self.trees):
            tree.label = label
        self.bind(self.root, {})
        made = [(MAKERS[tree.form], tree.label) for tree in self.trees if tree.form in MAKERS]
        self.sorts = [(0, 0)] + made
        self.places = [(0, tree.label) for tree in self.trees]
        self.places += [(1, tree.label) for tree in self.trees if tree.form in ("fun", "let")]
        for tree in self.trees:
            if tree.form == "pair":
                self.places += [(2, tree.label), (3, tree.label)]
        self.places += [(4, tree.label) for tree in self.trees if tree.form == "new"]

    def bind(self, tree, binders):
        if tree.form == "name":
            tree.binder = binders[tree.word]
        for number, part in enumerate(tree.parts):
            bound = tree.form == "fun" or (tree.form == "let" and number == 1)
            self.bind(part, {**binders, tree.word: tree.label} if bound else binders)

    def own(self):
        facts = set()
        for tree in self.trees:
            if tree.form in ("number", "in", "add"):
                facts.add(((0, tree.label), (0, 0)))
            if tree.form in MAKERS:
                facts.add(((0, tree.label), (MAKERS[tree.form], tree.label)))
        return facts

    def ways(self, facts):
        ways = set()
        for tree in self.trees:
            here, parts = (0, tree.label), [(0, part.label) for part in tree.parts]
            first = [sort for place, sort in facts if parts and place == parts[0]]
            if tree.form == "name":
                ways.add(((1, tree.binder), here))
            elif tree.form == "let":
                ways |= {(parts[0], (1, tree.label)), (parts[1], here)}
            elif tree.form == "if":
                ways |= {(parts[1], here), (parts[2], here)}
            elif tree.form == "pair":
                ways |= {(parts[0], (2, tree.label)), (parts[1], (3, tree.label))}
            elif tree.form == "new":
                ways.add((parts[0], (4, tree.label)))
            elif tree.form == "set":
                ways.add((parts[1], here))
                ways |= {(parts[1], (4, label)) for kind, label in first if kind == 3}
            elif tree.form == "get":
                ways |= {((4, label), here) for kind, label in first if kind == 3}
            elif tree.form in ("fst", "snd"):
                ways |= {((2 if tree.form == "fst" else 3, label), here) for kind, label in first if kind == 2}
            elif tree.form == "call":
                for kind, label in first:
                    if kind == 1:
                        ways |= {(parts[1], (1, label)), ((0, self.trees[label].parts[0].label), here)}
        return ways

    def needed(self, facts):
        ways = self.ways(facts)
        return self.own() | {(end, sort) for begin, end in ways for place, sort in facts if place == begin}

    def least(self):
        facts = set()
        while not self.needed(facts) <= facts:
            facts |= self.needed(facts)
        return facts

    def of_classes(self, parted):
        return {(place, sort) for members in parted for place in members
                for other, sort in self.own() if other in members}

    def last_classes(self):
        parted = {frozenset([place]) for place in self.places}
        while True:
            before = parted
            for begin, end in self.ways(self.of_classes(before)):
                touched = {members for members in parted if begin in members or end in members}
                parted = (parted - touched) | {frozenset().union(*touched)}
            if parted == before:
                return parted

    def tables(self):
        least = self.least()
        kinds = {(place, sort[0]) for place, sort in least}
        return [
            {(place, sort) for place in self.places for sort in self.sorts},
            {(place, sort) for place in self.places for sort in self.sorts if (place, sort[0]) in kinds},
            self.of_classes(self.last_classes()),
            least,
        ]

    def at(self, facts, place):
        return [sort for sort in self.sorts if (place, sort) in facts]

    def arrows(self, facts):
        return [(tree.label, label) for tree in self.trees if tree.form == "call"
                for kind, label in self.at(facts, (0, tree.parts[0].label)) if kind == 1]


class Stands(Exception):
    pass


class Run:
    """A run of a model's program; what is asked of it are the flows alone, without their strings."""

    def __init__(self, model, given):
        self.steps, self.given, self.flows = 0, given, set()
        try:
            self.run(model.root, {})
        except Stands:
            pass

    def run(self, tree, bound):
        self.steps += 1
        if self.steps > 300:
            raise Stands
        value = getattr(self, "run_" + tree.form)(tree, bound)
        self.flows.add((tree.label, value[0], value[1] if value[0] else 0))
        return value

    def of_kind(self, kind, value):
        if value[0] != kind:
            raise Stands
        return value

    def run_number(self, tree, bound):
        return (0, tree.word)

    def run_in(self, tree, bound):
        return (0, self.given)

    def run_name(self, tree, bound):
        return bound[tree.word]

    def run_fun(self, tree, bound):
        return (1, tree.label, tree, bound)

    def run_call(self, tree, bound):
        function, argument = [self.run(part, bound) for part in tree.parts]
        fun, around = self.of_kind(1, function)[2:]
        return self.run(fun.parts[0], {**around, fun.word: argument})

    def run_let(self, tree, bound):
        return self.run(tree.parts[1], {**bound, tree.word: self.run(tree.parts[0], bound)})

    def run_if(self, tree, bound):
        tested = self.of_kind(0, self.run(tree.parts[0], bound))
        return self.run(tree.parts[1 if tested[1] == 0 else 2], bound)

    def run_pair(self, tree, bound):
        return (2, tree.label, [self.run(part, bound) for part in tree.parts])

    def run_fst(self, tree, bound):
        return self.of_kind(2, self.run(tree.parts[0], bound))[2][0]

    def run_snd(self, tree, bound):
        return self.of_kind(2, self.run(tree.parts[0], bound))[2][1]

    def run_new(self, tree, bound):
        return (3, tree.label, [self.run(tree.parts[0], bound)])

    def run_get(self, tree, bound):
        return self.of_kind(3, self.run(tree.parts[0], bound))[2][0]

    def run_set(self, tree, bound):
        reference, put = [self.run(part, bound) for part in tree.parts]
        self.of_kind(3, reference)[2][0] = put
        return put

    def run_add(self, tree, bound):
        one, other = [self.of_kind(0, value) for value in [self.run(part, bound) for part in tree.parts]]
        return (0, (one[1] + other[1]) % 100)


def made_text(source, names, room, depth):
    """A text of an expression with about as many nodes as there is room for."""
    if room <= 1 or depth == 8:
        return source.choice(names * 3 + ["in", str(source.randrange(100))])
    form = source.choice(["fun", "call", "call", "call", "let", "let", "let", "let"] + sorted(PARTS))
    bound = source.choice("fghx")
    if form in ("fun", "new", "fst", "snd", "get"):
        inner = made_text(source, names + [bound] if form == "fun" else names, room - 1, depth + 1)
        return "(" + form + (" " + bound if form == "fun" else "") + " " + inner + ")"
    wanted = PARTS.get(form, 2)
    parts = []
    for number in range(wanted):
        inner = names + [bound] if form == "let" and number == 1 else names
        parts.append(made_text(source, inner, (room - 1) // wanted + source.randrange(3), depth + 1))
    head = {"call": "", "let": "let " + bound + " "}.get(form, form + " ")
    return "(" + head + " ".join(parts) + ")"


def made_programs(seed, wanted, fewest):
    source = random.Random(seed)
    texts = []
    while len(texts) < wanted:
        text = made_text(source, [], source.randrange(fewest, 34), 0)
        tree = tree_of(text)
        if tree and len(preorder(tree)) >= fewest:
            texts.append(text)
    return texts


def spoilt(source, text):
    """The text with one to three bytes put in, left out or changed."""
    row = as_bytes(text)
    for time in range(source.randrange(1, 4)):
        at = source.randrange(len(row) + 1)
        byte = source.choice(as_bytes("()  01fxin") + [source.randrange(256)])
        row[at:at + source.randrange(2)] = source.choice([[], [byte]])
    return bytes(row).decode("latin-1")


class AgainstTheModel(unittest.TestCase):
    def check_program(self, text):
        model = Model(text)
        tables, parted = model.tables(), model.last_classes()
        labels = range(len(model.trees))
        expected = [[len(labels), len(model.places), len(model.sorts), 0]]
        expected.append([number for facts in tables for number in (len(facts), len(model.arrows(facts)))])
        expected.append([len(parted), max(map(len, parted))])
        told = answered_of(text, size(), counts(), classes())
        self.assertEqual(told, expected, text)
        for rung, facts in enumerate(tables):
            told = answered_of(text, arrows(rung), *[set_at(rung, label) for label in labels])
            self.assertEqual(twos(told[0]), model.arrows(facts), (text, rung))
            self.assertEqual([twos(one) for one in told[1:]], [model.at(facts, (0, label)) for label in labels],
                             (text, rung))
        for label, told in enumerate(answered_of(text, *[class_of(label) for label in labels])):
            members = [one for one in parted if (0, label) in one][0]
            self.assertEqual(twos(told), [place for place in model.places if place in members], (text, label))

    def test_many_programs(self):
        for text in made_programs(1, 120, 2) + made_programs(2, 80, 20):
            self.check_program(text)

    def test_programs_full_of_flows(self):
        for text in ("(let r (new (fun x x)) (let s (set r (fun y ((get r) y))) (let p (pair r s) ((get (fst p)) (snd p)))))",
                     "(let p (pair (fun x (fst x)) (fun y (snd y))) ((if in (fst p) (snd p)) (pair (new p) (pair p 3))))",
                     "(let f (fun x (fun y (x (y x)))) ((f f) (f (fun z (set (new z) z)))))",
                     "(let f (fun x (x x)) (f (fun y (if in y (y (f y))))))",
                     "(let r (new 0) (let s (new r) (let t (set (get s) s) (get (get (get (get r)))))))"):
            self.check_program(text)

    def test_spoilt_texts(self):
        source = random.Random(3)
        good = 0
        for text in made_programs(4, 250, 2):
            for time in range(6):
                changed = spoilt(source, text)
                tree = tree_of(changed)
                good += tree is not None
                expected = len(preorder(tree)) if tree else -1
                self.assertEqual(answered(program(changed)), [[expected]], changed)
        self.assertGreater(good, 50)


class AgainstRuns(unittest.TestCase):
    def test_the_least_table_has_all_flows(self):
        flows = 0
        for text in made_programs(5, 150, 6):
            model = Model(text)
            told = [twos(one) for one in answered_of(text, *[set_at(3, label) for label in range(len(model.trees))])]
            for given in (0, 1, 9):
                for label, kind, made in Run(model, given).flows:
                    self.assertIn((kind, made), told[label], (text, given, label))
                    flows += 1
        self.assertGreater(flows, 1000)


class AgainstClosedness(unittest.TestCase):
    def test_coarser_rungs_have_all_facts_of_the_least_table(self):
        for text in made_programs(6, 60, 10):
            labels = range(len(Model(text).trees))
            told = [[twos(one) for one in answered_of(text, *[set_at(rung, label) for label in labels])]
                    for rung in range(4)]
            for label in labels:
                for rung in range(3):
                    self.assertLessEqual(set(told[3][label]), set(told[rung][label]), (text, rung, label))


if __name__ == "__main__":
    unittest.main()

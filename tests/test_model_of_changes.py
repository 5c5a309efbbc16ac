"""Holds places asked alone, changed programs and whole lines of calls against a second reckoning.

Here a change is made in the tree and not in the text, and labels move with the trees themselves.
"""

import random
import unittest

from helper import FAR, answered, answered_of, arrows, ask, change, class_of, classes, counts, funs, looked, program, set_at
from helper import show, shown, size, twos, undo
from test_model import Model, Wrong, made_programs, made_text, parsed, preorder, spoilt, tree_of


def asked(model, place):
    """The facts that are found and the places that are looked at, round by round as the document has them."""
    facts, places = set(), {place}
    while True:
        more = set(places)
        for kind, label in places:
            tree = model.trees[label]
            if kind == 0 and tree.form in ("call", "fst", "snd", "get"):
                more.add((0, tree.parts[0].label))
            if kind == 1 and tree.form == "fun":
                more |= {(0, other.parts[0].label) for other in model.trees if other.form == "call"}
            if kind == 4:
                more |= {(0, other.parts[0].label) for other in model.trees if other.form == "set"}
        more |= {begin for begin, end in model.ways(facts) if end in places}
        found = facts | {fact for fact in model.needed(facts) if fact[0] in more}
        if (found, more) == (facts, places):
            return facts, places
        facts, places = found, more


def text_of(tree):
    if tree.form in ("number", "name", "in"):
        return str(tree.word)
    words = [] if tree.form == "call" else [tree.form]
    words += [tree.word] if tree.form in ("fun", "let") else []
    return "(" + " ".join(words + [text_of(part) for part in tree.parts]) + ")"


def around(tree, wanted, names, depth):
    """The names that are bound at the tree that's wanted, and in how many others it stands."""
    if tree is wanted:
        return names, depth
    for number, part in enumerate(tree.parts):
        bound = tree.form == "fun" or (tree.form == "let" and number == 1)
        found = around(part, wanted, names | {tree.word} if bound else names, depth + 1)
        if found:
            return found
    return None


def replaced(tree, wanted, put):
    """The tree with another one in the place of the one that's wanted; its other nodes are the same ones."""
    if tree is wanted:
        return put
    tree.parts = [replaced(part, wanted, put) for part in tree.parts]
    return tree


def changed(text, label, put):
    """The changed program's text, and from old labels to new ones; or None."""
    root = tree_of(text)
    before = preorder(root)
    try:
        tree, end = parsed(put, 0, *around(root, before[label], frozenset(), 0))
    except Wrong:
        return None
    root = replaced(root, before[label], tree)
    after = preorder(root)
    if end != len(put) or len(after) > 30:
        return None
    return text_of(root), {old: after.index(node) for old, node in enumerate(before) if node in after}


def moved(fact, labels):
    (place, at), (kind, made) = fact
    if at not in labels or (kind and made not in labels):
        return None
    return (place, labels[at]), (kind, labels[made] if kind else 0)


class Line:
    """An object as the document has it; what each call answers."""

    def __init__(self):
        self.texts = ["0"]
        self.model = Model("0")

    def turn_to(self, texts):
        self.texts, self.model = texts[:9], Model(texts[0])
        return [len(self.model.trees)]

    def answer(self, form, *given):
        labels = {"set": given[1:], "class": given, "ask": given, "funs": given, "looked": given, "change": given[:1]}
        if form in ("set", "arrows") and given[0] not in range(4):
            return [-2]
        for label in labels.get(form, ()):
            if label not in range(len(self.model.trees)):
                return [-3]
        return getattr(self, "answer_" + form)(*given)

    def told(self, found):
        return [len(found)] + [number for two in found for number in two]

    def answer_program(self, text):
        return self.turn_to([text]) if tree_of(text) else [-1]

    def answer_show(self):
        return shown(self.texts[0])

    def answer_set(self, rung, label):
        return self.told(self.model.at(self.model.tables()[rung], (0, label)))

    def answer_arrows(self, rung):
        return self.told(self.model.arrows(self.model.tables()[rung]))

    def answer_counts(self):
        return [number for facts in self.model.tables() for number in (len(facts), len(self.model.arrows(facts)))]

    def answer_class(self, label):
        members = [one for one in self.model.last_classes() if (0, label) in one][0]
        return self.told([place for place in self.model.places if place in members])

    def answer_classes(self):
        parted = self.model.last_classes()
        return [len(parted), max(map(len, parted))]

    def answer_ask(self, label):
        facts, places = asked(self.model, (0, label))
        return self.told(self.model.at(facts, (0, label))) + [len(places)]

    def answer_funs(self, label):
        tree = self.model.trees[label]
        if tree.form != "call":
            return [-5]
        facts, places = asked(self.model, (0, tree.parts[0].label))
        made = sorted(sort[1] for place, sort in facts if place == (0, tree.parts[0].label) and sort[0] == 1)
        return [len(made)] + made + [len(places)]

    def answer_looked(self, label):
        places = asked(self.model, (0, label))[1]
        return self.told([place for place in self.model.places if place in places])

    def answer_change(self, label, put):
        found = changed(self.texts[0], label, put)
        if not found:
            return [-1]
        old = self.model.least()
        nodes = self.turn_to([found[0]] + self.texts)
        new = self.model.least()
        kept = [fact for fact in old if moved(fact, found[1]) in new]
        become = {moved(fact, found[1]) for fact in old} & new
        return nodes + [len(kept), len(old) - len(kept), len(new - become)]

    def answer_undo(self):
        return self.turn_to(self.texts[1:]) if len(self.texts) > 1 else [-4]

    def answer_size(self):
        return [len(self.model.trees), len(self.model.places), len(self.model.sorts), len(self.texts) - 1]


CALLS = {"program": program, "show": show, "set": set_at, "arrows": arrows, "counts": counts, "class": class_of,
         "classes": classes, "ask": ask, "funs": funs, "looked": looked, "change": change, "undo": undo, "size": size}


def full_programs(seed, wanted):
    """Programs in which functions, pairs and references come about from several sides."""
    source = random.Random(seed)
    texts = []
    while len(texts) < wanted:
        parts = [made_text(source, names, source.randrange(2, 6), 4)
                 for names in (["x"], ["f", "g"], ["f", "g", "h"], ["f", "g", "h"], ["f", "g", "h"])]
        second = source.choice(["(if in f (fun g %s))", "(if in (fun x %s) f)", "(pair f %s)", "(new %s)", "(f %s)"]) % parts[1]
        third = source.choice(["(if in f g)", "(g f)", "(set g f)", "(snd g)", "(get g)"])
        last = source.choice(["(%s %s)", "(pair (h %s) (g %s))", "(set g (h (f %s)))", "((get g) %s)", "((fst g) (h %s))"])
        last = last % tuple(parts[2:2 + last.count("%s")])
        text = "(let f (fun x %s) (let g %s (let h %s %s)))" % (parts[0], second, third, last)
        if tree_of(text):
            texts.append(text)
    return texts


def made_change(source, text):
    """A label of the program and a text to put there: mostly an expression whose names are mostly bound there."""
    root = tree_of(text)
    trees = preorder(root)
    label = source.choice([0, len(trees) - 1] + list(range(len(trees))) * 2)
    names, depth = around(root, trees[label], frozenset(), 0)
    known = sorted(names) + (["f", "x"] if source.randrange(8) == 0 else [])
    room = source.choice([1, 3, 6, 12, 31 - len(trees) + len(preorder(trees[label]))])
    put = made_text(source, known, room, max(0, depth - source.randrange(2)))
    return label, spoilt(source, put) if source.randrange(8) == 0 else put


class AskedAlone(unittest.TestCase):
    def test_what_the_least_table_has_at_every_node(self):
        few = 0
        for text in made_programs(11, 120, 2) + made_programs(12, 60, 20) + full_programs(16, 120):
            labels = range(len(preorder(tree_of(text))))
            sets = answered_of(text, *[set_at(3, label) for label in labels])
            told = answered_of(text, *[ask(label) for label in labels])
            self.assertEqual([one[:-1] for one in told], sets, text)
            few += sum(one[-1] < len(labels) // 2 for one in told)
        self.assertGreater(few, 1000)

    def test_which_places_are_looked_at(self):
        for text in made_programs(13, 50, 2) + made_programs(14, 30, 20) + full_programs(17, 70):
            model = Model(text)
            labels = range(len(model.trees))
            told = answered_of(text, *[looked(label) for label in labels])
            counted = answered_of(text, *[ask(label) for label in labels])
            for label in labels:
                places = asked(model, (0, label))[1]
                self.assertEqual(twos(told[label]), [place for place in model.places if place in places], (text, label))
                self.assertEqual(counted[label][-1], len(places), (text, label))

    def test_functions_of_every_call(self):
        many = 0
        for text in made_programs(15, 60, 8) + full_programs(18, 120):
            calls = [label for label, tree in enumerate(preorder(tree_of(text))) if tree.form == "call"]
            every = twos(answered_of(text, arrows(3))[0])
            for call in calls:
                told, whole = answered_of(text, funs(call), ask(call + 1))
                functions = [fun for site, fun in every if site == call]
                self.assertEqual(told, [len(functions)] + functions + [whole[-1]], (text, call))
                many += len(functions) > 1
        self.assertGreater(many, 5)


class Changes(unittest.TestCase):
    def test_many_changes(self):
        source = random.Random(21)
        good, longer, shorter, kept = 0, 0, 0, 0
        for text in made_programs(22, 120, 2) + made_programs(23, 60, 15) + full_programs(25, 120):
            for time in range(4):
                label, put = made_change(source, text)
                line = Line()
                line.answer("program", text)
                expected = [line.answer("change", label, put), line.answer("show"), line.answer("size")]
                told = answered(program(text), change(label, put), show(), size())
                self.assertEqual(told[1:], expected, (text, label, put))
                good += told[1][0] > 0
                longer += told[1][0] > told[0][0]
                shorter += 0 < told[1][0] < told[0][0]
                kept += told[1][0] > 0 and told[1][1] > 0
        self.assertGreater(min(longer, shorter, kept), 100)
        self.assertTrue(350 < good < 1100, good)

    def test_every_node_of_some_programs(self):
        for text in made_programs(24, 15, 6) + full_programs(26, 10):
            for label in range(len(preorder(tree_of(text)))):
                for put in ("5", "(fun x (x x))", "(pair (new in) (fst 1))", "f", "(let f (fun x x) (f f))"):
                    line = Line()
                    line.answer("program", text)
                    expected = [line.answer("change", label, put), line.answer("show")]
                    self.assertEqual(answered(program(text), change(label, put), show())[1:], expected, (text, label, put))


class WholeLines(unittest.TestCase):
    def made_call(self, source, line, texts):
        form = source.choice(sorted(CALLS) + ["change"] * 8 + ["undo"] * 3 + ["ask", "funs", "looked", "show", "size"])
        labels = list(range(len(line.model.trees))) + [-1, len(line.model.trees), FAR, -FAR]
        if form == "program":
            text = source.choice(texts)
            return form, (spoilt(source, text) if source.randrange(2) else text,)
        if form == "change":
            label, put = made_change(source, line.texts[0])
            return form, (label if source.randrange(12) else source.choice(labels), put)
        rung = source.choice([0, 1, 2, 3, 0, 1, 2, 3, -1, 4])
        given = {"set": (rung, source.choice(labels)), "arrows": (rung,)}
        if form in ("class", "ask", "funs", "looked"):
            return form, (source.choice(labels),)
        return form, given.get(form, ())

    def test_many_lines(self):
        source = random.Random(31)
        texts = made_programs(32, 30, 4) + full_programs(33, 60)
        seen = set()
        for time in range(150):
            line, calls, expected = Line(), [], []
            for number in range(source.randrange(1, 31)):
                form, given = ("program", (source.choice(texts),)) if number == 0 else self.made_call(source, line, texts)
                calls.append((form,) + given)
                expected.append(line.answer(form, *given))
                seen.add((form, min(expected[-1][0], 0)))
            told = answered(*[CALLS[call[0]](*call[1:]) for call in calls])
            self.assertEqual(told, expected, calls)
        refusals = {("program", -1), ("set", -2), ("set", -3), ("arrows", -2), ("class", -3), ("ask", -3), ("funs", -3),
                    ("funs", -5), ("looked", -3), ("change", -3), ("change", -1), ("undo", -4)}
        self.assertEqual(seen, refusals | {(form, 0) for form in CALLS})


if __name__ == "__main__":
    unittest.main()

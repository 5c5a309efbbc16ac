"""Programs: their nodes, who binds their names, and their sorts and places in order."""

from coarserflows.reader import BINDERS, CALL, USED_NAME, read_expression
from coarserflows.refusals import NoProgram

NUMBERS = (0, 0)
FUNCTION_KIND = 1
PAIR_KIND = 2
REFERENCE_KIND = 3
KIND_OF_MAKER = {"fun": 1, "pair": 2, "new": 3}

NODE_PLACE = 0
NAME_PLACE = 1
FIRST_PLACE = 2
SECOND_PLACE = 3
INSIDE_PLACE = 4


class Program:
    def __init__(self, text):
        self.text = list(text)
        self.nodes = read_expression(text)
        self.binders = binders_of(self.nodes)
        self.sorts = sorts_of(self.nodes)
        self.places = places_of(self.nodes)

    def has_node(self, label):
        return 0 <= label < len(self.nodes)

    def is_call(self, label):
        return self.nodes[label].form == CALL

    def calls_within(self):
        return labels_of(self.nodes, (CALL,))

    def first_part_of(self, label):
        return (NODE_PLACE, self.nodes[label].parts[0])


def labels_of(nodes, forms):
    return [label for label, node in enumerate(nodes) if node.form in forms]


def binders_of(nodes):
    binders = {}
    for label in labels_of(nodes, (USED_NAME,)):
        binders[label] = binder_of(nodes, label)
    return binders


def binder_of(nodes, label):
    inner = label
    outer = nodes[label].parent
    while outer is not None:
        # A let's own part is outside of its name; of a fun and a let the last part is inside.
        if nodes[outer].word == nodes[label].word and nodes[outer].parts[-1] == inner:
            return outer
        inner = outer
        outer = nodes[outer].parent
    raise NoProgram()


def sorts_of(nodes):
    sorts = [NUMBERS]
    for label, node in enumerate(nodes):
        if node.form in KIND_OF_MAKER:
            sorts.append((KIND_OF_MAKER[node.form], label))
    return sorts


def places_of(nodes):
    places = [(NODE_PLACE, label) for label in range(len(nodes))]
    for label in labels_of(nodes, BINDERS):
        places.append((NAME_PLACE, label))
    for label in labels_of(nodes, ("pair",)):
        places.append((FIRST_PLACE, label))
        places.append((SECOND_PLACE, label))
    for label in labels_of(nodes, ("new",)):
        places.append((INSIDE_PLACE, label))
    return places

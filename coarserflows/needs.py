"""What a table needs: the facts that nodes need by themselves, and the ways between places.

A table is a dict from each place to a dict whose keys are the sorts there.
"""

from coarserflows.programs import FIRST_PLACE, INSIDE_PLACE, NAME_PLACE, NODE_PLACE, SECOND_PLACE
from coarserflows.programs import FUNCTION_KIND, KIND_OF_MAKER, NUMBERS, PAIR_KIND, REFERENCE_KIND
from coarserflows.reader import CALL, GIVEN, NUMBER, USED_NAME


def empty_table(program):
    table = {}
    for place in program.places:
        table[place] = {}
    return table


def own_table(program):
    table = empty_table(program)
    for label, node in enumerate(program.nodes):
        if node.form in KIND_OF_MAKER:
            table[(NODE_PLACE, label)][(KIND_OF_MAKER[node.form], label)] = True
        elif node.form in (NUMBER, GIVEN, "add"):
            table[(NODE_PLACE, label)][NUMBERS] = True
    return table


def ways_of(program, table):
    ways = []
    for label in range(len(program.nodes)):
        ways.extend(standing_ways(program, label))
        ways.extend(ways_by_facts(program, label, table))
    return ways


def standing_ways(program, label):
    node = program.nodes[label]
    here = (NODE_PLACE, label)
    parts = [(NODE_PLACE, part) for part in node.parts]
    if node.form == USED_NAME:
        return [((NAME_PLACE, program.binders[label]), here)]
    if node.form == "let":
        return [(parts[0], (NAME_PLACE, label)), (parts[1], here)]
    if node.form == "if":
        return [(parts[1], here), (parts[2], here)]
    if node.form == "pair":
        return [(parts[0], (FIRST_PLACE, label)), (parts[1], (SECOND_PLACE, label))]
    if node.form == "new":
        return [(parts[0], (INSIDE_PLACE, label))]
    if node.form == "set":
        return [(parts[1], here)]
    return []


def ways_by_facts(program, label, table):
    node = program.nodes[label]
    here = (NODE_PLACE, label)
    if node.form == CALL:
        return call_ways(program, label, table)
    if node.form == "fst":
        return [((FIRST_PLACE, pair), here) for pair in labels_at(table, node.parts[0], PAIR_KIND)]
    if node.form == "snd":
        return [((SECOND_PLACE, pair), here) for pair in labels_at(table, node.parts[0], PAIR_KIND)]
    if node.form == "get":
        return [((INSIDE_PLACE, made), here) for made in labels_at(table, node.parts[0], REFERENCE_KIND)]
    if node.form == "set":
        put = (NODE_PLACE, node.parts[1])
        return [(put, (INSIDE_PLACE, made)) for made in labels_at(table, node.parts[0], REFERENCE_KIND)]
    return []


def call_ways(program, label, table):
    node = program.nodes[label]
    ways = []
    for fun in labels_at(table, node.parts[0], FUNCTION_KIND):
        body = program.nodes[fun].parts[0]
        ways.append(((NODE_PLACE, node.parts[1]), (NAME_PLACE, fun)))
        ways.append(((NODE_PLACE, body), (NODE_PLACE, label)))
    return ways


def labels_at(table, label, kind):
    return [sort[1] for sort in table[(NODE_PLACE, label)] if sort[0] == kind]

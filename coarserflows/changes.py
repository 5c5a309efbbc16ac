"""A program changed at a node, and what of its least table is kept."""

from coarserflows.programs import NUMBERS, Program
from coarserflows.reader import read_expression
from coarserflows.tables import how_many_facts, least_table


def changed_program(program, label, text):
    # Read by itself first: what isn't one expression might still fit in between what stands around it.
    read_expression(text)
    node = program.nodes[label]
    return Program(program.text[:node.begin] + text + program.text[node.end:])


# What has no entry here is gone.
def moved_labels(old, new, label):
    more = len(new.nodes) - len(old.nodes)
    moved = {}
    for other, node in enumerate(old.nodes):
        if other < label:
            moved[other] = other
        elif node.begin >= old.nodes[label].end:
            moved[other] = other + more
    return moved


def moved_two(two, moved):
    if two[1] not in moved:
        return None
    return (two[0], moved[two[1]])


def moved_sort(sort, moved):
    # The second number of a number's sort is no label.
    if sort == NUMBERS:
        return sort
    return moved_two(sort, moved)


def how_many_kept(old_table, new_table, moved):
    kept = 0
    for place in old_table:
        becomes = moved_two(place, moved)
        if becomes is not None:
            sorts = [moved_sort(sort, moved) for sort in old_table[place]]
            kept += len([sort for sort in sorts if sort in new_table[becomes]])
    return kept


def kept_gone_and_new(old, new, label):
    old_table = least_table(old)
    new_table = least_table(new)
    kept = how_many_kept(old_table, new_table, moved_labels(old, new, label))
    return [kept, how_many_facts(old_table) - kept, how_many_facts(new_table) - kept]

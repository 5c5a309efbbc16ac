"""The rungs: everything everywhere, by kinds, both ways, and the least table; and what they tell."""

from coarserflows.bothways import last_classes, table_of_classes
from coarserflows.needs import own_table, ways_of
from coarserflows.programs import FUNCTION_KIND

EVERYTHING = 0
BY_KINDS = 1
BOTH_WAYS = 2
RUNGS = (0, 1, 2, 3)


def table_of_rung(program, rung):
    if rung == EVERYTHING:
        return everything_table(program)
    if rung == BY_KINDS:
        return kinds_table(program)
    if rung == BOTH_WAYS:
        return table_of_classes(program, last_classes(program))
    return least_table(program)


def everything_table(program):
    table = {}
    for place in program.places:
        table[place] = as_keys(program.sorts)
    return table


def kinds_table(program):
    least = least_table(program)
    table = {}
    for place in program.places:
        kinds = [sort[0] for sort in least[place]]
        table[place] = as_keys([sort for sort in program.sorts if sort[0] in kinds])
    return table


def least_table(program):
    table = own_table(program)
    grown = True
    while grown:
        grown = False
        ways = ways_of(program, table)
        for begin, end in ways:
            before = len(table[end])
            table[end].update(table[begin])
            if len(table[end]) > before:
                grown = True
    return table


def as_keys(sorts):
    keys = {}
    for sort in sorts:
        keys[sort] = True
    return keys


def sorts_at(program, table, place):
    return [sort for sort in program.sorts if sort in table[place]]


def how_many_facts(table):
    return sum([len(table[place]) for place in table])


def functions_at(program, table, place):
    return [sort[1] for sort in sorts_at(program, table, place) if sort[0] == FUNCTION_KIND]


def arrows_of(program, table):
    arrows = []
    for call in program.calls_within():
        for fun in functions_at(program, table, program.first_part_of(call)):
            arrows.append((call, fun))
    return arrows

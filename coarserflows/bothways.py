"""Both ways: the classes in which places stand, and the table of these classes.

Classes are a dict from each place to one place of its class, the same for all of them.
"""

from coarserflows.needs import own_table, ways_of


def last_classes(program):
    classes = {}
    for place in program.places:
        classes[place] = place
    joined = True
    while joined:
        joined = False
        ways = ways_of(program, table_of_classes(program, classes))
        for begin, end in ways:
            if classes[begin] != classes[end]:
                put_together(classes, classes[begin], classes[end])
                joined = True
    return classes


def put_together(classes, kept, lost):
    for place in list(classes):
        if classes[place] == lost:
            classes[place] = kept


def table_of_classes(program, classes):
    own = own_table(program)
    of_class = {}
    for place in program.places:
        of_class.setdefault(classes[place], {}).update(own[place])
    table = {}
    for place in program.places:
        table[place] = dict(of_class[classes[place]])
    return table


def members(program, classes, place):
    return [other for other in program.places if classes[other] == classes[place]]


def class_sizes(program, classes):
    firsts = [place for place in program.places if classes[place] == place]
    return [len(members(program, classes, first)) for first in firsts]

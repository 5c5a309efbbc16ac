"""One place asked alone: the places that are looked at for it, and what is found there."""

from coarserflows.needs import empty_table, own_table, ways_of
from coarserflows.programs import INSIDE_PLACE, NAME_PLACE, NODE_PLACE, labels_of
from coarserflows.reader import CALL


class Asking:
    def __init__(self, program, place):
        self.program = program
        self.looked_at = {place: True}
        self.found = empty_table(program)

    def look_further(self):
        before = dict(self.looked_at)
        for place in before:
            for other in places_that_steer(self.program, place):
                self.looked_at[other] = True
        for begin, end in ways_of(self.program, self.found):
            if end in before:
                self.looked_at[begin] = True

    def find_facts(self):
        own = own_table(self.program)
        for place in self.looked_at:
            self.found[place].update(own[place])
        for begin, end in ways_of(self.program, self.found):
            if end in self.looked_at:
                self.found[end].update(self.found[begin])

    def how_much(self):
        return len(self.looked_at) + sum([len(self.found[place]) for place in self.looked_at])


# The facts at these places make the ways that end at the one that's given.
def places_that_steer(program, place):
    kind = place[0]
    form = program.nodes[place[1]].form
    if kind == NODE_PLACE and form in (CALL, "fst", "snd", "get"):
        return [program.first_part_of(place[1])]
    if kind == NAME_PLACE and form == "fun":
        return [program.first_part_of(call) for call in program.calls_within()]
    if kind == INSIDE_PLACE:
        return [program.first_part_of(put) for put in labels_of(program.nodes, ("set",))]
    return []


def ask_alone(program, place):
    asking = Asking(program, place)
    grown = True
    while grown:
        before = asking.how_much()
        asking.look_further()
        asking.find_facts()
        grown = asking.how_much() > before
    return asking

"""Answers calls on one object: its program, what the rungs and places asked alone tell, and its changes."""

from coarserflows.alone import ask_alone
from coarserflows.bothways import class_sizes, last_classes, members
from coarserflows.changes import changed_program, kept_gone_and_new
from coarserflows.programs import NODE_PLACE, Program
from coarserflows.refusals import NoCall, NoNode, NoProgram, NoRung, NothingKept, UnknownCall
from coarserflows.tables import RUNGS, arrows_of, functions_at, how_many_facts, sorts_at, table_of_rung

PROGRAM_CALL = 0
SHOW_CALL = 1
SET_CALL = 2
ARROWS_CALL = 3
COUNTS_CALL = 4
CLASS_CALL = 5
CLASSES_CALL = 6
ASK_CALL = 7
FUNS_CALL = 8
LOOKED_CALL = 9
CHANGE_CALL = 10
UNDO_CALL = 11
SIZE_CALL = 12

NO_PROGRAM = -1
NO_RUNG = -2
NO_NODE = -3
NOTHING_KEPT = -4
NO_CALL = -5

MOST_KEPT = 8


class Row:
    def __init__(self, numbers):
        self.numbers = numbers
        self.reached = 0

    def has_more(self):
        return self.reached < len(self.numbers)

    def take_number(self):
        number = self.numbers[self.reached]
        self.reached += 1
        return number

    def take_text(self):
        length = self.take_number()
        text = self.numbers[self.reached:self.reached + length]
        self.reached += length
        return text


class Ladder:
    def __init__(self):
        self.program = Program([ord("0")])
        self.kept = []

    def replace_program(self, text):
        self.program = Program(text)
        self.kept = []
        return [len(self.program.nodes)]

    def tell_text(self):
        return [len(self.program.text)] + self.program.text

    def tell_set(self, rung, label):
        check_rung(rung)
        self.check_node(label)
        table = table_of_rung(self.program, rung)
        return counted_twos(sorts_at(self.program, table, (NODE_PLACE, label)))

    def tell_arrows(self, rung):
        check_rung(rung)
        return counted_twos(arrows_of(self.program, table_of_rung(self.program, rung)))

    def tell_counts(self):
        counts = []
        for rung in RUNGS:
            table = table_of_rung(self.program, rung)
            counts.append(how_many_facts(table))
            counts.append(len(arrows_of(self.program, table)))
        return counts

    def tell_class(self, label):
        self.check_node(label)
        return counted_twos(members(self.program, last_classes(self.program), (NODE_PLACE, label)))

    def tell_classes(self):
        sizes = class_sizes(self.program, last_classes(self.program))
        return [len(sizes), max(sizes)]

    def tell_asked(self, label):
        self.check_node(label)
        place = (NODE_PLACE, label)
        asked = ask_alone(self.program, place)
        return counted_twos(sorts_at(self.program, asked.found, place)) + [len(asked.looked_at)]

    def tell_funs(self, label):
        self.check_node(label)
        if not self.program.is_call(label):
            raise NoCall()
        place = self.program.first_part_of(label)
        asked = ask_alone(self.program, place)
        funs = functions_at(self.program, asked.found, place)
        return [len(funs)] + funs + [len(asked.looked_at)]

    def tell_looked(self, label):
        self.check_node(label)
        asked = ask_alone(self.program, (NODE_PLACE, label))
        return counted_twos([place for place in self.program.places if place in asked.looked_at])

    def change_program(self, label, text):
        self.check_node(label)
        before = self.program
        self.program = changed_program(before, label, text)
        self.kept = ([before] + self.kept)[:MOST_KEPT]
        return [len(self.program.nodes)] + kept_gone_and_new(before, self.program, label)

    def undo_change(self):
        if not self.kept:
            raise NothingKept()
        self.program = self.kept[0]
        self.kept = self.kept[1:]
        return [len(self.program.nodes)]

    def tell_size(self):
        program = self.program
        return [len(program.nodes), len(program.places), len(program.sorts), len(self.kept)]

    def check_node(self, label):
        if not self.program.has_node(label):
            raise NoNode()


def check_rung(rung):
    if rung not in RUNGS:
        raise NoRung()


def counted_twos(twos):
    told = [len(twos)]
    for two in twos:
        told.append(two[0])
        told.append(two[1])
    return told


def carry_out(ladder, row):
    call = row.take_number()
    if call == PROGRAM_CALL:
        return ladder.replace_program(row.take_text())
    if call == SHOW_CALL:
        return ladder.tell_text()
    if call == SET_CALL:
        rung = row.take_number()
        return ladder.tell_set(rung, row.take_number())
    if call == ARROWS_CALL:
        return ladder.tell_arrows(row.take_number())
    if call == COUNTS_CALL:
        return ladder.tell_counts()
    if call == CLASS_CALL:
        return ladder.tell_class(row.take_number())
    if call == CLASSES_CALL:
        return ladder.tell_classes()
    if call == ASK_CALL:
        return ladder.tell_asked(row.take_number())
    if call == FUNS_CALL:
        return ladder.tell_funs(row.take_number())
    if call == LOOKED_CALL:
        return ladder.tell_looked(row.take_number())
    if call == CHANGE_CALL:
        label = row.take_number()
        return ladder.change_program(label, row.take_text())
    if call == UNDO_CALL:
        return ladder.undo_change()
    if call == SIZE_CALL:
        return ladder.tell_size()
    raise UnknownCall(f"there is no call {call}")


def answer_or_refusal(ladder, row):
    try:
        return carry_out(ladder, row)
    except NoProgram:
        return [NO_PROGRAM]
    except NoRung:
        return [NO_RUNG]
    except NoNode:
        return [NO_NODE]
    except NothingKept:
        return [NOTHING_KEPT]
    except NoCall:
        return [NO_CALL]


def answers(calls):
    ladder = Ladder()
    row = Row(calls)
    told = []
    while row.has_more():
        answer = answer_or_refusal(ladder, row)
        told.append(len(answer))
        told.extend(answer)
    return told

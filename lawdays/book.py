"""The interface: a list of calls is handed in, the list of their answers is given back."""

from lawdays.command import Command, NAME, PUT, TAKE, TEXT, WORD
from lawdays.reader import Reader
from lawdays.record import Record

BEGIN = 0
ACT = 1


def answers(calls):
    reader = Reader(calls)
    record = Record()
    told = []
    while reader.has_more():
        answer = answer_call(record, reader)
        told.append(len(answer))
        told.extend(answer)
    return told


def answer_call(record, reader):
    call = reader.next_number()
    if call == BEGIN:
        return [record.begin()]
    if call == ACT:
        return [record.add_act(reader.next_number())]
    if call in (PUT, TAKE, TEXT, WORD, NAME):
        return [record.add_command(read_command(call, reader))]
    raise NotImplementedError("there is no such call yet")


def read_command(kind, reader):
    command = Command(kind)
    command.law = reader.next_number()
    if kind == NAME:
        command.follow = reader.next_number()
    command.begins = reader.next_number()
    command.till = reader.next_number()
    if kind == PUT:
        command.after = reader.next_row()
    command.label = reader.next_row()
    if kind == WORD:
        command.old = reader.next_row()
    if kind == NAME:
        command.to = reader.next_row()
    if kind in (PUT, TEXT, WORD):
        command.text = reader.next_row()
    return command

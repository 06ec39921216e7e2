"""The interface: a list of calls is handed in, the list of their answers is given back."""

from lawdays.command import Command, NAME, PUT, TAKE, TEXT, VOID, WORD
from lawdays.laws import Laws
from lawdays.question import tell_broken, tell_idle, tell_labels, tell_next, tell_origin, tell_read
from lawdays.reader import Reader

BEGIN = 0
ACT = 1
READ = 8
LABELS = 9
ORIGIN = 10
IDLE = 11
BROKEN = 12

DONE = 0


def answers(calls):
    reader = Reader(calls)
    laws = Laws()
    told = []
    while reader.has_more():
        answer = answer_call(laws, reader)
        told.append(len(answer))
        told.extend(answer)
    return told


def answer_call(laws, reader):
    call = reader.next_number()
    if call == BEGIN:
        laws.begin()
        return [DONE]
    if call == ACT:
        return [laws.record.add_act(reader.next_number())]
    if call == VOID:
        return [laws.record.add_void(reader.next_number())]
    if call in (PUT, TAKE, TEXT, WORD, NAME):
        return [laws.record.add_command(read_command(call, reader))]
    if call == IDLE:
        on = reader.next_number()
        known = reader.next_number()
        return tell_idle(laws, on, known)
    return answer_of_law(laws, call, reader)


def answer_of_law(laws, call, reader):
    law = reader.next_number()
    on = reader.next_number()
    known = reader.next_number()
    if call == LABELS:
        return tell_labels(laws, law, on, known)
    if call == BROKEN:
        return tell_broken(laws, law, on, known, reader.next_number())
    label = reader.next_row()
    if call == READ:
        return tell_read(laws, law, label, on, known)
    if call == ORIGIN:
        return tell_origin(laws, law, label, on, known)
    return tell_next(laws, law, label, on, known)


def read_command(kind, reader):
    command = Command(kind)
    command.law = reader.next_number()
    if kind == NAME:
        command.follow = reader.next_number()
    command.begins = reader.next_number()
    command.till = reader.next_number()
    if kind == PUT:
        command.after = reader.next_row()
    command.label = reader.next_row()
    if kind == WORD:
        command.old = reader.next_row()
    if kind == NAME:
        command.to = reader.next_row()
    if kind in (PUT, TEXT, WORD):
        command.text = reader.next_row()
    return command

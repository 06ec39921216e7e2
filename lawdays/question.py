"""What is asked of the laws: each def gives back an answer as a row of numbers."""

from lawdays.checks import is_day, is_label, is_law
from lawdays.laws import days_above
from lawdays.record import WRONG
from lawdays.section import place_of, references_in

NO_SECTION = -2
TOLD = 0
NONE_LEFT = 0
FOUND = 1


def is_askable(law, on, known):
    return is_law(law) and is_day(on) and is_day(known)


def tell_read(laws, law, label, on, known):
    if not is_askable(law, on, known) or not is_label(label):
        return [WRONG]
    section = find_section(laws.sections_of(law, on, known), label)
    if section is None:
        return [NO_SECTION]
    return [TOLD] + section.text


def tell_labels(laws, law, on, known):
    if not is_askable(law, on, known):
        return [WRONG]
    sections = laws.sections_of(law, on, known)
    told = [TOLD, len(sections)]
    for section in sections:
        told.extend(with_size(section.label))
    return told


def tell_origin(laws, law, label, on, known):
    if not is_askable(law, on, known) or not is_label(label):
        return [WRONG]
    section = find_section(laws.sections_of(law, on, known), label)
    if section is None:
        return [NO_SECTION]
    return [TOLD] + rows_of(section.owners)


def tell_idle(laws, on, known):
    if not is_day(on) or not is_day(known):
        return [WRONG]
    return [TOLD] + laws.without_effect(on, known)


def tell_broken(laws, law, on, known, k):
    if not is_askable(law, on, known):
        return [WRONG]
    sections = laws.sections_of(law, on, known)
    there = [section.label for section in sections]
    passed = 0
    for section in sections:
        for label in references_in(section.text):
            if label not in there:
                if passed == k:
                    return [FOUND] + with_size(section.label) + with_size(label)
                passed = passed + 1
    return [NONE_LEFT]


def tell_next(laws, law, label, on, known):
    if not is_askable(law, on, known) or not is_label(label):
        return [WRONG]
    commands = laws.commands_of(law, known)
    text = find_text(laws.sections_by(law, commands, on), label)
    for day in days_above(commands, on):
        if find_text(laws.sections_by(law, commands, day), label) != text:
            return [FOUND, day]
    return [NONE_LEFT]


def find_section(sections, label):
    place = place_of(sections, label)
    return None if place is None else sections[place]


def find_text(sections, label):
    section = find_section(sections, label)
    return None if section is None else section.text


def with_size(row):
    return [len(row)] + row


def rows_of(owners):
    """How many bytes of one owner stand one behind another, and the owner, row by row."""
    rows = []
    size = 0
    for place, owner in enumerate(owners):
        size = size + 1
        if place + 1 == len(owners) or owners[place + 1] != owner:
            rows.append(size)
            rows.append(owner)
            size = 0
    return rows

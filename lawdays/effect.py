"""What a command does to the sections of its law: each def gives back other sections, or None for no effect."""

from lawdays.command import PUT, TAKE, TEXT, WORD
from lawdays.section import Section, exchange, follow_label, new_section, place_of, places_in

MOST_SECTIONS = 64
MOST_SECTION_BYTES = 4096


def effect_of(command, sections):
    if command.kind == PUT:
        return put_section(command, sections)
    place = place_of(sections, command.label)
    if place is None:
        return None
    if command.kind == TAKE:
        return sections[:place] + sections[place + 1:]
    if command.kind == TEXT:
        return set_section(sections, place, new_section(command.label, command.text, command.number))
    if command.kind == WORD:
        return change_word(command, sections, place)
    return change_label(command, sections, place)


def put_section(command, sections):
    if len(sections) == MOST_SECTIONS or place_of(sections, command.label) is not None:
        return None
    section = new_section(command.label, command.text, command.number)
    if len(command.after) == 0:
        return [section] + sections
    place = place_of(sections, command.after)
    if place is None:
        return None
    return sections[:place + 1] + [section] + sections[place + 1:]


def set_section(sections, place, section):
    return sections[:place] + [section] + sections[place + 1:]


def change_word(command, sections, place):
    section = sections[place]
    places = places_in(section.text, command.old)
    if len(places) != 1:
        return None
    changed = exchange(section, places, len(command.old), command.text, command.number)
    if not is_short(changed):
        return None
    return set_section(sections, place, changed)


def change_label(command, sections, place):
    if place_of(sections, command.to) is not None:
        return None
    section = sections[place]
    named = set_section(sections, place, Section(command.to, section.text, section.owners))
    if command.follow == 0:
        return named
    followed = [follow_label(one, command.label, command.to, command.number) for one in named]
    if not all([is_short(one) for one in followed]):
        return None
    return followed


def is_short(section):
    return len(section.text) <= MOST_SECTION_BYTES

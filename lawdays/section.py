"""Sections of a law, and what stands in their texts."""

from lawdays.checks import LEFT_BRACKET, RIGHT_BRACKET, is_label


class Section:
    """A label, a text, and for each byte of the text the number of the command that brought it.

    It is never changed, so that a law's earlier and later sections may share it.
    """

    def __init__(self, label, text, owners):
        self.label = label
        self.text = text
        self.owners = owners


def new_section(label, text, owner):
    return Section(label, text, [owner] * len(text))


def place_of(sections, label):
    for place, section in enumerate(sections):
        if section.label == label:
            return place
    return None


def places_in(text, row):
    """Where the row, of 1 byte at least, stands in the text; places may overlap."""
    size = len(row)
    found = []
    for place in range(len(text) - size + 1):
        # Most places differ in the first byte already; asking for it saves the slice.
        if text[place] == row[0] and text[place:place + size] == row:
            found.append(place)
    return found


def exchange(section, places, size, row, owner):
    """The section with the row in the stead of the size bytes at each place; places don't overlap here."""
    text = []
    owners = []
    done = 0
    for place in places:
        text.extend(section.text[done:place])
        text.extend(row)
        owners.extend(section.owners[done:place])
        owners.extend([owner] * len(row))
        done = place + size
    text.extend(section.text[done:])
    owners.extend(section.owners[done:])
    return Section(section.label, text, owners)


def follow_label(section, label, to, owner):
    """The section with each reference to the label made one to the other label."""
    # A label holds no bracket, so this row stands where a reference stands, and nowhere else.
    places = places_in(section.text, [LEFT_BRACKET] + label + [RIGHT_BRACKET])
    if len(places) == 0:
        return section
    return exchange(section, [place + 1 for place in places], len(label), to, owner)


def references_in(text):
    """The labels that the text refers to, by place."""
    found = []
    opened = None
    for place, byte in enumerate(text):
        if byte == LEFT_BRACKET:
            # One that came before can't be closed any more: no label holds a bracket.
            opened = place + 1
        if byte == RIGHT_BRACKET and opened is not None:
            if is_label(text[opened:place]):
                found.append(text[opened:place])
            opened = None
    return found

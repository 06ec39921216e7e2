"""Sections with texts of up to 4,096 bytes, which no one command tells."""

from tests.lines import put, word

MOST = 4096
# Each word of the three brings 1,023 bytes more; the sign to be exchanged stays the last one.
MORE = "x" * 1023 + "!"


def long_section(label, size, law=0, begin_with=""):
    """Five commands that make a section of 4,093 bytes at least: what it begins with, then x, and ! at the end."""
    assert 4093 <= size <= MOST
    return [
        put(law, "", label, begin_with + "x" * (1023 - len(begin_with)) + "!"),
        word(law, label, "!", MORE),
        word(law, label, "!", MORE),
        word(law, label, "!", MORE),
        word(law, label, "!", "x" * (size - 4093) + "!"),
    ]

"""What a day, a law, a label and a text are."""

LAST_DAY = 1048576
LAST_LAW = 63
MOST_LABEL_BYTES = 16
MOST_TEXT_BYTES = 1024
BLANK = 32
LAST_SIGN = 126
LEFT_BRACKET = 91
RIGHT_BRACKET = 93


def is_day(day):
    return day <= LAST_DAY


def is_law(law):
    return law <= LAST_LAW


def is_span(begins, till):
    """Whether a command may hold from the day begins till the day till."""
    if not is_day(begins):
        return False
    # A till of 0 is no day: it says that there is no end.
    return till == 0 or (till > begins and is_day(till))


def is_text_byte(byte):
    return byte >= BLANK and byte <= LAST_SIGN


def is_label_byte(byte):
    # Brackets enclose a label where a text refers to it, so no label holds one.
    return is_text_byte(byte) and byte != BLANK and byte != LEFT_BRACKET and byte != RIGHT_BRACKET


def is_label(row):
    if len(row) == 0 or len(row) > MOST_LABEL_BYTES:
        return False
    for byte in row:
        if not is_label_byte(byte):
            return False
    return True


def is_text(row):
    if len(row) > MOST_TEXT_BYTES:
        return False
    for byte in row:
        if not is_text_byte(byte):
            return False
    return True

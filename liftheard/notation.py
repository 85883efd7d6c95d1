"""The text of a house and of a log."""

from liftheard.errors import InvalidText
from liftheard.hearing import check_log
from liftheard.words import house_of, log_row_of, rows_of, wrong_place

HEADS = ("gaps", "bells")
LOG_WORDS = ("go", "bell", "door", "look", "gap")


def with_numbers(word, numbers):
    """Return the row of a word and of some numbers."""
    return " ".join([word] + [str(number) for number in numbers])


def text_of_row(row):
    """Return the row of a text for a row of a log."""
    if row[0] == "bell":
        return "bell yes" if row[1] else "bell no"
    if row[0] == "look":
        return with_numbers("look", row[1])
    return with_numbers(row[0], row[1:])


def format_log(house, log):
    """Return the text of a house and of a log."""
    check_log(house, log)
    rows = [with_numbers("gaps", house.gaps), with_numbers("bells", house.bells)]
    return "\n".join(rows + [text_of_row(row) for row in log])


def parse_log(text):
    """Return the house and the log of a text."""
    rows = rows_of(text)
    place = wrong_place(rows, HEADS, LOG_WORDS)
    if place is not None:
        row, word = place
        raise InvalidText(row, word)
    house = house_of(rows)
    log = [log_row_of(words) for words in rows[len(HEADS):]]
    check_log(house, log)
    return house, log

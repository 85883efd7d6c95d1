"""Rows of words: which words can stand in them, and what they tell of a house and of what was heard."""

from liftheard.houses import House

DIGITS = "0123456789"
LONGEST_NUMBER = 2
# For each first word of a row: the kinds of the words that it needs behind it, and the kind of all further ones.
KINDS = {
    "gaps": (("number",), "number"),
    "bells": ((), "floor"),
    "start": (("number",), "floor"),
    "go": (("number",), None),
    "bell": (("answer",), None),
    "door": ((), None),
    "look": (("number",), "floor"),
    "gap": ((), None),
    "told": (("number", "number"), "floor"),
    "undo": ((), None),
    "floors": ((), None),
    "ways": ((), None),
    "then": (("number",), None),
}


def rows_of(text):
    """Return the list of the rows of a text, each one the list of its words."""
    return [row.split(" ") for row in text.split("\n")]


def is_number(word):
    """Return whether a word is 0, or one or two digits that do not begin with 0."""
    if not 1 <= len(word) <= LONGEST_NUMBER or not all([sign in DIGITS for sign in word]):
        return False
    return word == "0" or word[0] != "0"


def is_higher(word, ahead):
    """Return whether a word is a higher number than the word ahead of it, or the first number of its row."""
    return is_number(word) and (not is_number(ahead) or int(word) > int(ahead))


def is_of_kind(word, kind, ahead):
    """Return whether a word is of a kind, behind the word ahead of it; a superfluous one is of none."""
    if kind == "answer":
        return word in ("yes", "no")
    if kind == "floor":
        return is_higher(word, ahead)
    return kind == "number" and is_number(word)


def wrong_word(words, first_words):
    """Return the index of the first word of a row that is wrong, superfluous or missing, or None."""
    if words[0] not in first_words:
        return 0
    needed, further = KINDS[words[0]]
    for index in range(1, len(words)):
        kind = needed[index - 1] if index <= len(needed) else further
        if not is_of_kind(words[index], kind, words[index - 1]):
            return index
    return len(words) if len(words) <= len(needed) else None


def wrong_place(rows, heads, first_words):
    """Return the first wrong word of rows that begin with some heads, as a tuple (row, word), or None."""
    for index, words in enumerate(rows):
        word = wrong_word(words, (heads[index],) if index < len(heads) else first_words)
        if word is not None:
            return index, word
    return (len(rows), 0) if len(rows) < len(heads) else None


def numbers_of(words):
    """Return the tuple of the numbers that words tell."""
    return tuple([int(word) for word in words])


def house_of(rows):
    """Return the house that the first two of some right rows tell."""
    return House(numbers_of(rows[0][1:]), numbers_of(rows[1][1:]))


def log_row_of(words):
    """Return the row of a log that the words of a right row tell."""
    if words[0] == "go":
        return "go", int(words[1])
    if words[0] == "bell":
        return "bell", words[1] == "yes"
    if words[0] == "look":
        return "look", numbers_of(words[1:])
    return (words[0],)

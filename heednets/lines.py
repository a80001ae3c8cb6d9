"""Lines for the console, and what their words tell."""
from heednets.ratios import ratio
from heednets.texts import are_figures, read_signs

LONGEST_NUMBER = 6


def read_number(word):
    """The number that figures tell; None for other words."""
    if not are_figures(word) or len(word) > LONGEST_NUMBER or (word[0] == "0" and word != "0"):
        return None
    return int(word)


def read_ratio(word):
    """The fraction that a word tells, in any terms; None for other words."""
    above, slash, below = word.removeprefix("-").partition("/")
    top = read_number(above)
    bottom = read_number(below) if slash else 1
    if top is None or bottom is None or bottom == 0:
        return None
    return ratio(-top if word.startswith("-") else top, bottom)


def read_cells(word):
    """What cells are, one sign for each; None for other words."""
    return read_signs(word, len(word))


def same_word(word):
    return word


# For each first word: what reads the words behind it, and what reads further ones, or None where none may stand.
FORMS = {
    "album": ((same_word,), same_word),
    "weight": ((read_number, read_number, read_ratio), None),
    "mark": ((read_number, read_ratio), None),
    "order": ((read_number,), read_number),
    "turn": ((), read_number),
    "strike": ((read_number, read_number, read_number), None),
    "cell": ((read_number, read_number, read_ratio), read_ratio),
    "keep": ((same_word,), None),
    "drop": ((same_word,), None),
    "made": ((), None),
    "undo": ((), None),
    "redo": ((), None),
    "state": ((read_cells,), None),
    "take": ((same_word,), None),
    "move": ((read_number,), None),
    "step": ((), None),
    "rest": ((), None),
    "wants": ((), None),
    "board": ((), None),
    "rests": ((), None),
    "scales": ((), None),
    "falls": ((), None),
    "show": ((), None),
}


def read_words(form, words):
    """What words tell by a form, a list; None if they do not have it."""
    readers, more = form
    if len(words) < len(readers) or (more is None and len(words) > len(readers)):
        return None
    told = []
    for at, word in enumerate(words):
        reader = readers[at] if at < len(readers) else more
        told.append(reader(word))
    return None if None in told else told


def read_line(line):
    """(WORD, TOLD), the first word of a line and what the others tell; None for what is not understood."""
    words = line.split(" ")
    # Blanks ahead, behind or doubled leave words without signs.
    if "\n" in line or "" in words or words[0] not in FORMS:
        return None
    told = read_words(FORMS[words[0]], words[1:])
    return None if told is None else (words[0], told)


def album_rows(words):
    """The text of an album that the words of a line tell."""
    rows = " ".join(words).split(" ; ")
    return "".join([row + "\n" for row in rows])

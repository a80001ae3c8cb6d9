"""Fractions and boards as texts, and back."""
from heednets.ratios import is_fraction

ON_SIGN = "#"
OFF_SIGN = "."


def fraction_text(fraction):
    above, below = fraction
    return str(above) if below == 1 else f"{above}/{below}"


def are_figures(word):
    return word.isascii() and word.isdigit()


def read_fraction(word):
    """The fraction whose text a word is; None."""
    above, _, below = word.removeprefix("-").partition("/")
    if not are_figures(above) or not are_figures(below or "1"):
        return None
    found = (-int(above) if word.startswith("-") else int(above), int(below or "1"))
    # Only its own text tells a fraction: no noughts ahead, no "-0", nothing over 1, no slash without a number.
    return found if is_fraction(found) and fraction_text(found) == word else None


def signs_of(state):
    return "".join([ON_SIGN if on else OFF_SIGN for on in state])


def board_rows(shape, state):
    """The rows of signs that show a state on a board."""
    height, width = shape
    return [signs_of(state[row * width:(row + 1) * width]) for row in range(height)]


def read_signs(row, width):
    """What so many cells of a row are, on or off; None if its signs do not tell it."""
    if len(row) != width or not all(sign in (ON_SIGN, OFF_SIGN) for sign in row):
        return None
    return tuple([1 if sign == ON_SIGN else 0 for sign in row])

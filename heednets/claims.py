"""Claims for the checker: what those of each kind tell, and whether a value is one."""
from heednets.albums import is_album
from heednets.helping import is_helping
from heednets.lots import is_lot
from heednets.nets import is_net
from heednets.orders import is_order
from heednets.pictures import is_tuple_of_pictures
from heednets.ratios import is_fraction, is_whole
from heednets.states import as_number, is_state_of
from heednets.wants import next_numbers


# Each of these tells whether a value, whatever it is, is right as a part of a claim; FIRST is the claim's first part,
# right itself where other parts hang on it.
def is_net_part(first, value):
    return is_net(value)


def is_helping_part(first, value):
    return is_net(value) and is_helping(value)


def is_state_part(first, value):
    return is_state_of(len(first[1]), value)


def is_rest_part(first, value):
    if not is_state_part(first, value):
        return False
    number = as_number(value)
    return next_numbers(first)[number] == number


def are_states_part(first, value):
    return isinstance(value, tuple) and all(is_state_part(first, state) for state in value)


def is_order_part(first, value):
    return is_order(first, value)


def is_lot_part(first, value):
    return is_lot(first, value)


def is_number_part(first, value):
    return is_whole(value) and value >= 0


def is_near_part(first, value):
    """Whether it is a number of unlike cells."""
    return is_whole(value) and 0 <= value <= len(first[1])


def is_chance(first, value):
    """Whether it is a state and its chance of being the end, which is above 0."""
    if not isinstance(value, tuple) or len(value) != 2:
        return False
    return is_state_part(first, value[0]) and is_fraction(value[1]) and value[1][0] > 0


def are_chances_part(first, value):
    return isinstance(value, tuple) and all(is_chance(first, chance) for chance in value)


def are_pictures_part(first, value):
    return is_tuple_of_pictures(value, 1)


def are_two_pictures_part(first, value):
    return is_tuple_of_pictures(value, 2)


def is_fraction_part(first, value):
    return is_fraction(value)


def is_text_part(first, value):
    return isinstance(value, str)


def is_album_part(first, value):
    return is_album(value)


def is_any_part(first, value):
    return True


PARTS = {
    "net": is_net_part,
    "helping net": is_helping_part,
    "state": is_state_part,
    "rest": is_rest_part,
    "states": are_states_part,
    "order": is_order_part,
    "lot": is_lot_part,
    "number": is_number_part,
    "near": is_near_part,
    "chances": are_chances_part,
    "pictures": are_pictures_part,
    "two pictures": are_two_pictures_part,
    "fraction": is_fraction_part,
    "text": is_text_part,
    "album": is_album_part,
    "any": is_any_part,
}

CLAIMS = {
    "rest": ("net", "state"),
    "always ends": ("net",),
    "goes round": ("net",),
    "scales": ("net",),
    "no scales": ("net",),
    "ends within": ("net", "number"),
    "swings": ("net", "state", "state"),
    "run": ("net", "state", "states", "states"),
    "order run": ("net", "state", "order", "states", "states"),
    "leads": ("net", "state", "state"),
    "leads not": ("net", "state", "state"),
    "sure": ("net", "state", "rest"),
    "open": ("net", "state"),
    "ends": ("net", "state", "states"),
    "chances": ("net", "state", "chances"),
    "kept": ("pictures",),
    "kept by none": ("pictures",),
    "widest": ("two pictures", "fraction"),
    "kept by any": ("pictures",),
    "not kept by any": ("pictures",),
    "comes back": ("net", "rest", "near"),
    "may go away": ("net", "rest", "near"),
    "lights": ("helping net", "lot"),
    "lights not": ("helping net", "lot"),
    "fewest": ("helping net", "number"),
    "nexts": ("net", "states"),
    "change": ("net", "any", "net"),
    "no change": ("net", "any"),
    "turned to": ("net", "net", "state"),
    "read": ("text", "album"),
    "not read": ("text", "number"),
}


def is_claim(value):
    """Whether a value, whatever it is, is a claim for the checker."""
    if not isinstance(value, tuple) or not value or not isinstance(value[0], str) or value[0] not in CLAIMS:
        return False
    kinds = CLAIMS[value[0]]
    if len(value) != 1 + len(kinds):
        return False
    for kind, part in zip(kinds, value[1:]):
        is_right = PARTS[kind]
        if not is_right(value[1], part):
            return False
    return True

"""Books: albums that change, with the next states of all states, and what was ahead of each change and behind it."""
from heednets.albums import check_album, is_name
from heednets.deeds import DEEDS, does_fit, led_state, left_numbers, net_behind, next_states, state_that_was
from heednets.errors import InvalidDeed, NothingToRedo, NothingToUndo
from heednets.made import net_of
from heednets.pictures import MOST_PICTURES
from heednets.shapes import is_shape_of
from heednets.states import as_number, as_state, is_state_of
from heednets.wants import next_number, whole_rows

MOST_KEPT = 20
# What a change of the kept pictures alone does with the net, and with states.
STILL = ("turn", ())
# By how much these deeds change the number of cells; as changes they tell the shape behind, too.
SHAPED = {"cell": 1, "strike": -1}


def names_of(album):
    return [name for name, _ in album[2]]


def does_keep_fit(album, parts):
    if len(parts) != 2 or not is_name(parts[0]) or not is_state_of(len(album[1][1]), parts[1]):
        return False
    names = names_of(album)
    return parts[0] in names or len(names) < MOST_PICTURES


def does_drop_fit(album, parts):
    return len(parts) == 1 and is_name(parts[0]) and parts[0] in names_of(album)


def kept_numbers(album):
    return [as_number(state) for _, state in album[2]]


def does_made_fit(album, parts):
    numbers = kept_numbers(album)
    return not parts and len(numbers) > 0 and len(set(numbers)) == len(numbers) and len(album[1][1]) > 1


def pictures_with(album, parts):
    kept = {name: state for name, state in album[2]}
    kept[parts[0]] = parts[1]
    return tuple(sorted(kept.items()))


def pictures_without(album, parts):
    return tuple([picture for picture in album[2] if picture[0] != parts[0]])


# The changes that are no deeds: whether they fit.
OWN_FITS = {"keep": does_keep_fit, "drop": does_drop_fit, "made": does_made_fit}


def does_change_fit(album, value):
    """Whether a value, whatever it is, is a change of an album."""
    if not isinstance(value, tuple) or not value or not isinstance(value[0], str):
        return False
    word, net = value[0], album[1]
    if word in OWN_FITS:
        judge = OWN_FITS[word]
        return judge(album, value[1:])
    if word in SHAPED:
        return does_fit(net, value[:-1]) and is_shape_of(len(net[1]) + SHAPED[word], value[-1])
    return does_fit(net, value)


def deed_of(change):
    """What a change does with states; and with the net, but for the net of pictures, which is made anew."""
    if change[0] in SHAPED:
        return change[:-1]
    return change if change[0] in DEEDS else STILL


def net_of_kept(album):
    many = len(album[1][1])
    return net_of(tuple([as_state(number, many) for number in sorted(kept_numbers(album))]))


def album_behind(album, change):
    """The album behind a change that fits."""
    shape, net, pictures = album
    word = change[0]
    if word == "keep":
        return (shape, net, pictures_with(album, change[1:]))
    if word == "drop":
        return (shape, net, pictures_without(album, change[1:]))
    if word == "made":
        return (shape, net_of_kept(album), pictures)
    deed = deed_of(change)
    led = tuple([(name, led_state(deed, state)) for name, state in pictures])
    return (change[-1] if word in SHAPED else shape, net_behind(net, deed), led)


def left_by(leaf, change):
    """The states whose next ones a change leaves, ascending; LEAF is an album and its next states."""
    album, nexts = leaf
    if change[0] == "made":
        return []
    return left_numbers(album[1], deed_of(change), [as_number(state) for state in nexts])


def leaf_behind(leaf, change):
    """The album behind a change, and its next states, for which only those of the change's work are looked at."""
    album, nexts = leaf
    changed_album = album_behind(album, change)
    rows = whole_rows(changed_album[1])
    many = len(rows)
    deed = deed_of(change)
    left = {number: True for number in left_by(leaf, change)}
    found = []
    for number in range(1 << many):
        if number in left:
            was = as_number(state_that_was(deed, as_state(number, many)))
            found.append(led_state(deed, nexts[was]))
        else:
            found.append(as_state(next_number(rows, number), many))
    return (changed_album, tuple(found))


def check_change(book, change):
    if not does_change_fit(album_in(book), change):
        raise InvalidDeed(change)


def fresh_book(album):
    """The book of an album in which nothing was changed yet."""
    check_album(album)
    return ((album, next_states(album[1])), (), ())


def album_in(book):
    """The album as it stands now."""
    return book[0][0]


def nexts_in(book):
    """The next states of all states of the net as it stands now."""
    return book[0][1]


def changed(book, change):
    """The book behind a change."""
    check_change(book, change)
    leaf, earlier, _ = book
    return (leaf_behind(leaf, change), (earlier + (leaf,))[-MOST_KEPT:], ())


def work_of(book, change):
    """The numbers of the states behind a change that are to be looked at anew."""
    check_change(book, change)
    many = len(album_in(book)[1][1]) + SHAPED.get(change[0], 0)
    left = {number: True for number in left_by(book[0], change)}
    return tuple([number for number in range(1 << many) if number not in left])


def undone(book):
    """The book in which the last change is undone."""
    leaf, earlier, later = book
    if not earlier:
        raise NothingToUndo()
    return (earlier[-1], earlier[:-1], ((leaf,) + later)[:MOST_KEPT])


def again(book):
    """The book in which the last change that was undone is done again."""
    leaf, earlier, later = book
    if not later:
        raise NothingToRedo()
    return (later[0], (earlier + (leaf,))[-MOST_KEPT:], later[1:])

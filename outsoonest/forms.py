"""Things and rows written as octets, and read from them."""

from outsoonest.errors import BadRow, Broken, Refused
from outsoonest.reading import BELOW, MOST_DEEP, MOST_PARTS, NOTHING, NUMBER, SEQUENCE, SIGNS, TEXT, Reader
from outsoonest.words import is_integer, is_number, is_sequence, need_octets

# The least number that needs more octets than an integer may have: 200.
TOO_MUCH = 1 << 1600


def is_text(value):
    """Whether any value is a text."""
    return isinstance(value, str) and len(value) <= MOST_PARTS and all([sign in SIGNS for sign in value])


def is_thing(value, deep):
    """Whether any value is a thing of at most so many sequences one within another."""
    if value is None or is_text(value):
        return True
    if is_integer(value):
        return -TOO_MUCH <= value < TOO_MUCH
    if not is_sequence(value) or deep == 0 or len(value) > MOST_PARTS:
        return False
    return all([is_thing(part, deep - 1) for part in value])


def is_value(value):
    """Whether any value is a thing."""
    return is_thing(value, MOST_DEEP)


def is_row(value):
    """Whether any value is a row."""
    return is_value(value) and is_sequence(value) and len(value) > 0 and isinstance(value[0], str)


def number_octets(number):
    """A number: how many octets it needs, then these, the greatest part first."""
    octets = []
    while number:
        octets.append(number & 255)
        number >>= 8
    octets.append(len(octets))
    octets.reverse()
    return octets


def thing_octets(value):
    """The form of a thing, as a list."""
    if value is None:
        return [NOTHING]
    if isinstance(value, str):
        return [TEXT] + number_octets(len(value)) + [SIGNS.index(sign) for sign in value]
    if is_sequence(value):
        octets = [SEQUENCE] + number_octets(len(value))
        for part in value:
            octets.extend(thing_octets(part))
        return octets
    if value < 0:
        return [BELOW] + number_octets(-1 - value)
    return [NUMBER] + number_octets(value)


def write_value(value):
    """The form of a thing; Refused for any value that is none."""
    if not is_value(value):
        raise Refused(value)
    return tuple(thing_octets(value))


def value_length(value):
    """How many octets the form of a thing has; Refused for any value that is none."""
    return len(write_value(value))


def write_row(row):
    """The form of a row; BadRow for any value that is none."""
    if not is_sequence(row) or not 1 <= len(row) <= MOST_PARTS:
        raise BadRow(-1)
    for at, part in enumerate(row):
        if not is_thing(part, MOST_DEEP - 1) or at == 0 and not isinstance(part, str):
            raise BadRow(at)
    return tuple(thing_octets(row))


def read_on(reader, octets, at):
    """Lets a reader go on from a place to the end of its form, or of the octets.

    Returns the place behind; Broken with the first octet that cannot be there.
    """
    place = at
    while place < len(octets) and not reader.ended:
        low, high = reader.bounds()
        if not low <= octets[place] <= high:
            raise Broken(place)
        reader.take(octets[place])
        place += 1
    return place


def read_form(octets, at, of_row):
    """What the form tells that begins at a place, and the place behind it."""
    reader = Reader(of_row)
    place = read_on(reader, octets, at)
    if not reader.ended:
        raise Broken(len(octets))
    return reader.thing, place


def read_value(octets, at):
    """What the form of a thing tells that begins at a place, and the place behind it."""
    octets = need_octets(octets)
    if not is_number(at):
        raise Refused(at)
    return read_form(octets, at, False)


def read_row(octets, at):
    """What the form of a row tells that begins at a place, and the place behind it."""
    octets = need_octets(octets)
    if not is_number(at):
        raise Refused(at)
    return read_form(octets, at, True)


def whole_value(octets):
    """What octets tell that are one form and nothing more."""
    octets = need_octets(octets)
    thing, behind = read_form(octets, 0, False)
    if behind < len(octets):
        raise Broken(behind)
    return thing


def rows_of(octets):
    """The rows that stand whole in octets, the place behind them, and the reader of what hangs there."""
    rows = []
    behind = 0
    reader = Reader(True)
    place = read_on(reader, octets, behind)
    while reader.ended:
        rows.append(reader.thing)
        behind = place
        reader = Reader(True)
        place = read_on(reader, octets, behind)
    return tuple(rows), behind, reader


def read_rows(octets):
    """The rows that stand whole from the beginning on, and the place behind them."""
    rows, behind, _ = rows_of(need_octets(octets))
    return rows, behind


def healing(octets):
    """The fewest octets, of these the least, that make whole what hangs behind the rows."""
    octets = need_octets(octets)
    _, behind, reader = rows_of(octets)
    if behind == len(octets):
        return ()
    added = []
    while not reader.ended:
        least, _ = reader.bounds()
        added.append(least)
        reader.take(least)
    return tuple(added)

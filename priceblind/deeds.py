"""Deeds: the putting of a file of a size, the dropping of the file of a serial."""
from priceblind.checks import is_size, is_within
from priceblind.errors import BadDeeds, NoFile
from priceblind.layouts import file_at, room_for


def is_deed(value):
    """Whether any value is a pair ("put", size) or ("drop", serial)."""
    if not isinstance(value, (list, tuple)) or len(value) != 2:
        return False
    word, number = value
    if not isinstance(word, str):
        return False
    if word == "put":
        return is_size(number)
    return word == "drop" and is_within(number, 0, None)


def are_deeds(value):
    """Whether any value is a list of deeds."""
    return isinstance(value, (list, tuple)) and all([is_deed(deed) for deed in value])


def check_deed(layout, deed):
    """Raises an error for what is no deed, or one that cannot be done to the layout."""
    if not is_deed(deed):
        raise BadDeeds("deed")
    word, number = deed
    if word == "drop" and file_at(layout, number) is None:
        raise NoFile(number)


def needs_tidying(layout, deed):
    """Whether a put finds no room, or the drop of a file in a payload none for the shade."""
    word, number = deed
    if word == "put":
        return room_for(layout, number) is None
    _, in_payload, size = file_at(layout, number)
    return in_payload and room_for(layout, size) is None


def size_in(layout, deed):
    """The size of the deed's file."""
    word, number = deed
    if word == "put":
        return number
    return file_at(layout, number)[2]

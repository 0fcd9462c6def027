"""Forms that all points share: numbers, options, events, inputs, showings."""

KINDS = ("order", "walk", "fill", "width")
ASKING = ("order", "walk", "fill")
OPTIONS = {"order": ("left", "right"), "walk": ("up", "down"), "fill": (0, 1, 2, 3, "none"), "width": (1, 2, 3)}
OPERATIONS = ("plus", "minus", "times", "same", "less", "over")
ENDS = ("more", "ends", "waits", "never", "ruined")
SIZES = (1, 2, 4, 8)


def is_number(thing):
    """Whether any value is an int that is no bool."""
    return isinstance(thing, int) and not isinstance(thing, bool)


def is_between(thing, low, high):
    return is_number(thing) and low <= thing <= high


def is_word(thing, words):
    return isinstance(thing, str) and thing in words


def is_row(thing, count):
    """Whether any value is a tuple of so many."""
    return isinstance(thing, tuple) and len(thing) == count


def is_listing(thing):
    """A tuple is taken wherever a list is expected."""
    return isinstance(thing, (list, tuple))


def is_let(thing, options):
    """Whether any value is one of the options; False would be equal to 0."""
    return (is_number(thing) or isinstance(thing, str)) and thing in options


def is_place_form(thing):
    """Whether any value is a pair of a word and a path; True would be equal to 1."""
    if not is_row(thing, 2) or not isinstance(thing[0], str) or not isinstance(thing[1], tuple):
        return False
    return all([is_number(at) for at in thing[1]])


def is_event(thing):
    return is_row(thing, 2) and is_word(thing[0], ("asked", "shown")) and is_between(thing[1], 0, 7)


def are_events(thing):
    return isinstance(thing, tuple) and all([is_event(event) for event in thing])


def are_inputs(thing):
    return is_listing(thing) and all([is_between(number, 0, 7) for number in thing])


def is_showing(thing):
    return is_row(thing, 2) and are_events(thing[0]) and is_word(thing[1], ENDS)


def is_memory(thing, count, size):
    """Whether any value is a tuple of so many worths, each below size, or None."""
    return is_row(thing, count) and all([worth is None or is_between(worth, 0, size - 1) for worth in thing])


def asked_in(events):
    """The inputs that events tell."""
    return tuple([event[1] for event in events if event[0] == "asked"])

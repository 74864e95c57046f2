"""Of which kind a thing is that was handed in."""


def is_row(thing):
    """Whether it is a list or a tuple: where one is due, the other may be handed in."""
    return isinstance(thing, (list, tuple))


def is_whole(thing, least):
    """Whether it is a whole number not below least; a truth is an int, but no whole number."""
    return isinstance(thing, int) and not isinstance(thing, bool) and thing >= least


def is_mark(thing):
    """Whether it is a small letter."""
    return isinstance(thing, str) and len(thing) == 1 and "a" <= thing <= "z"


def is_mark_or_none(thing):
    """Whether it is a small letter, or the sign for no mark."""
    return is_mark(thing) or thing == "."


def is_rim(thing):
    """Whether it is a text of one mark or `.` at least."""
    return isinstance(thing, str) and len(thing) > 0 and all(is_mark_or_none(sign) for sign in thing)


def is_seen(thing):
    """Whether it is a seen piece: a text of one place at least, of marks, `.` and `?`."""
    return isinstance(thing, str) and is_rim(thing.replace("?", "."))


def is_name(thing):
    """Whether it is a name that a desk may have: one to eight small letters."""
    return isinstance(thing, str) and 1 <= len(thing) <= 8 and all(is_mark(sign) for sign in thing)

"""Seen pieces of strips, and what is seen in them of each place of a rim."""


def seen_of(seen, at, length):
    """All that is seen of a rim's place, by a wheel of that length that begins at its rim's first place: a text."""
    return seen[at::length].replace("?", "")


def signs_in(text):
    """The signs of a text, each once, in the order `.`, a, b, .."""
    return sorted(set(text))


def rim_of(seen, length):
    """What all wheels of a length that can have printed the piece have on their rims; None where none can."""
    rim = []
    for at in range(length):
        signs = signs_in(seen_of(seen, at, length))
        if len(signs) > 1:
            return None
        rim.append(signs[0] if signs else "?")
    return "".join(rim)

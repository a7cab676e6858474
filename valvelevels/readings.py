"""Texts of scripts and polynomials that are read back."""

from valvelevels.checks import is_polynomial
from valvelevels.errors import TankError, Unreadable
from valvelevels.scripts import Script


def read_script(text):
    """Return the script with a text."""
    first, *others = text.split("; ")
    try:
        tanks = [read_tank(part) for part in first.split(", ")]
        return Script(tanks, [read_step(part) for part in others])
    except TankError:
        raise Unreadable(text) from None


def read_polynomial(text):
    """Return the polynomial with a text."""
    if text == "0":
        return []
    try:
        one = [read_integer(part) for part in text.split(" ")]
    except TankError:
        raise Unreadable(text) from None
    if not is_polynomial(one):
        raise Unreadable(text)
    return one


def read_tank(text):
    """Return the tank with a text."""
    parts = text.split(" ")
    if len(parts) != 3 or parts[1] != "in":
        raise Unreadable(text)
    width = None if parts[2] == "w" else read_integer(parts[2])
    return width, read_integer(parts[0])


def read_step(text):
    """Return the tuple of a word and things with a text, which may be no step."""
    word, *things = text.split(" ")
    return tuple([word] + [read_thing(part) for part in things])


def read_thing(text):
    """Return the list of tanks, the part or the integer with a text."""
    if "," in text:
        return [read_integer(part) for part in text.split(",")]
    if "/" in text:
        return tuple([read_integer(part) for part in text.split("/")])
    return read_integer(text)


def read_integer(text):
    """Return the integer with a text: at most 9 digits, no zeros ahead, and no zero below 0."""
    digits = text[1:] if text.startswith("-") else text
    if not digits or len(digits) > 9 or not all([sign in "0123456789" for sign in digits]):
        raise Unreadable(text)
    if digits.startswith("0") and text != "0":
        raise Unreadable(text)
    return int(text)

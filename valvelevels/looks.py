"""What may be seen of two tanks: that one stands higher, that both are even, or that it stands lower."""

from valvelevels.checks import copied
from valvelevels.claims import widths_that_keep
from valvelevels.errors import InvalidClaim
from valvelevels.stretches import overlap_of

# In the order in which they are told.
WORDS = ("above", "even", "below")


def check_word(word):
    """Raise an error if something is no word for what may be seen."""
    if word not in WORDS:
        raise InvalidClaim(copied(word))


def parted_by(told, known, one, other):
    """Return the tuples (word, widths) of all that may be seen at a known set, by all ways of a script."""
    found = [(word, overlap_of(known, widths_that_keep(told, (word, one, other)))) for word in WORDS]
    return [pair for pair in found if pair[1]]

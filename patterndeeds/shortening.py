"""Shortening: all passes by turns."""

from patterndeeds.checker import checked_shapes
from patterndeeds.folding import folded, swept, trimmed
from patterndeeds.likeness import least_code


def shortened(code):
    """The code folded, trimmed, swept and least by turns, until a turn changes nothing."""
    checked_shapes(code)
    while True:
        made = least_code(swept(trimmed(folded(code))))
        if made == code:
            return code
        code = made

"""Shortening: all passes by turns."""

from patterndeeds.checker import checked_shapes, sound_shapes
from patterndeeds.folding import folded_rows, trimmed_rows
from patterndeeds.likeness import with_least_rows
from patterndeeds.rewriting import reached_rows, rewritten


def shortened(code):
    """The code folded, trimmed, swept and least by turns, until a turn changes nothing."""
    checked_shapes(code)
    while True:
        # The passes make sound codes of sound ones, so what they make is not checked again.
        made = rewritten(rewritten(rewritten(code, folded_rows), trimmed_rows), reached_rows)
        made = with_least_rows(made, sound_shapes(made))
        if made == code:
            return code
        code = made

"""Stepping: how a run goes on, instruction by instruction."""

from patterndeeds.deeds import Waiting
from patterndeeds.errors import RunError
from patterndeeds.instructions import ACTIONS


def do_row(run, row):
    """Does the next instruction, or lets the run end with its error; whether it does not wait."""
    action = ACTIONS[row[0]]
    try:
        going = action(run, row)
    except RunError as error:
        run.ending = ("error", error.word, run.at_place)
    except Waiting:
        return False
    else:
        if going is None:
            going = run.row + 1
        run.row = going
    return True


def go_on(run, count):
    """Goes on until a tick comes next and so many were done, or the run waits or ends.

    The places of the ticks, and the end.
    """
    places = []
    while run.ending is None:
        row = run.rows[run.row]
        if row[0] == "tick":
            if len(places) == count:
                return places, row
            places.append(row[1])
        if not do_row(run, row):
            return places, ("more", run.at_place)
    return places, run.ending

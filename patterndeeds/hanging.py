"""Hanging: on which parts of the inputs what a code does may hang."""

from patterndeeds.checker import checked_shapes
from patterndeeds.errors import InvalidRoot
from patterndeeds.feeds import Feeds, planted_roots
from patterndeeds.knowing import check_spot, is_spot, spots_of
from patterndeeds.moves import moves_of, scalar
from patterndeeds.signs import is_text
from patterndeeds.spreading import Spreading, is_chain
from patterndeeds.worlds import KINDS


class Hanging:
    """The spots of a sound code, the roots that are planted there, and what feeds what."""

    def __init__(self, code):
        shapes = checked_shapes(code)
        self.moves = moves_of(code, shapes)
        self.spots = spots_of(code, shapes)
        self.planted = planted_roots(code, self.moves)
        self.pairs = Feeds(code, self.moves).pairs

    def roots_of(self, spots):
        """A dict of the roots that are planted at some spots or at those from which feeds lead to them."""
        ahead = Spreading([(other, spot) for spot, other in self.pairs])
        feeding = ahead.reached_from({spot: True for spot in spots})
        return {root: True for root, spot in self.planted if spot in feeding}

    def course_spots(self):
        """The spots on which it hangs how a run goes on."""
        found = []
        for move in self.moves:
            word = move.row[0]
            if word == "jump_if" or word == "exit":
                found.extend(move.took)
            elif word == "walk":
                found.append(move.array())
            elif word == "record" or word == "read" and move.row[1] == "main":
                found.append(scalar("RS"))
        return found

    def planted_at(self, root):
        """A dict of the spots at which a root is planted."""
        return {spot: True for one, spot in self.planted if one == root}


def is_root(value):
    """Whether any value is a root."""
    if type(value) is not tuple or len(value) != 2 or type(value[0]) is not str:
        return False
    if value[0] == "field":
        return type(value[1]) is int and value[1] >= 0
    return value[0] in KINDS and is_text(value[1])


def check_root(root):
    """Raises InvalidRoot unless a value is a root."""
    if not is_root(root):
        raise InvalidRoot("the value is no root")


def hangs(code, spot):
    """The ascending list of the roots on which a spot hangs."""
    hanging = Hanging(code)
    check_spot(hanging.spots, spot)
    return sorted(hanging.roots_of(hanging.course_spots() + [spot]))


def course_hangs(code):
    """The ascending list of the roots on which the course hangs."""
    hanging = Hanging(code)
    return sorted(hanging.roots_of(hanging.course_spots()))


def root_chain(code, root, spot):
    """A shortest list of spots along which a root feeds a spot; None if there is none."""
    hanging = Hanging(code)
    check_root(root)
    check_spot(hanging.spots, spot)
    return Spreading(hanging.pairs).chain_to(hanging.planted_at(root), spot)


def is_root_chain(code, root, spot, value):
    """Whether any value is such a list of spots."""
    hanging = Hanging(code)
    check_root(root)
    check_spot(hanging.spots, spot)
    if not is_chain(value) or [one for one in value if not is_spot(hanging.spots, one)] != []:
        return False
    return Spreading(hanging.pairs).leads(hanging.planted_at(root), value, spot)

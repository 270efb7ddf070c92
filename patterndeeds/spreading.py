"""Spreading: what leads from spot to spot."""


class Spreading:
    """Pairs of spots, each of which leads from the first to the second one."""

    def __init__(self, pairs):
        self.behind = {}
        for spot, other in pairs:
            self.behind.setdefault(spot, {})[other] = True

    def reached_from(self, firsts):
        """A dict of the spots to which some spots lead, these included, each with the one ahead of it."""
        found = {spot: None for spot in sorted(firsts)}
        waiting = list(found)
        done = 0
        while done < len(waiting):
            spot = waiting[done]
            done += 1
            for other in self.behind.get(spot, {}):
                if other not in found:
                    found[other] = spot
                    waiting.append(other)
        return found

    def chain_to(self, firsts, spot):
        """A shortest list of spots that leads from one of some spots to a spot; None if there is none."""
        found = self.reached_from(firsts)
        if spot not in found:
            return None
        chain = []
        while spot is not None:
            chain.append(spot)
            spot = found[spot]
        return chain[::-1]

    def leads(self, firsts, chain, spot):
        """Whether a list of one spot or more leads from one of some spots to a spot."""
        if chain[0] not in firsts or chain[-1] != spot:
            return False
        for one, other in zip(chain, chain[1:]):
            if other not in self.behind.get(one, {}):
                return False
        return True


def is_chain(value):
    """Whether any value is a list that is not empty."""
    return type(value) is list and len(value) > 0

"""Greatest matchings of two sides, and as great a lot of which no two are tied."""


class Matching:
    """A greatest matching: ties tells for each key of one side the members of the other side it may have."""

    def __init__(self, ties):
        self.ties = ties
        self.mates = {}
        self.holders = {}
        for one in ties:
            free, came = self._search([one])
            self._turn(free, came)

    def _search(self, starts):
        """Go from keys by alternating ways; give a free member, None without one, and where from each came."""
        came = {}
        todo = list(starts)
        while todo:
            one = todo.pop()
            for other in self.ties[one]:
                if other not in came:
                    came[other] = one
                    if other not in self.holders:
                        return other, came
                    todo.append(self.holders[other])
        return None, came

    def _turn(self, member, came):
        """Match anew along the way that came to a free member."""
        while member is not None:
            one = came[member]
            left = self.mates.get(one)
            self.mates[one] = member
            self.holders[member] = one
            member = left

    def apart(self, members):
        """List keys and members no two of which are tied, as many as both sides less the matched pairs.

        By the theorem of Koenig: the keys that alternating ways from unmatched ones reach, and the
        members that they do not reach.
        """
        loose = [one for one in self.ties if one not in self.mates]
        _, came = self._search(loose)
        reached = {one: True for one in loose}
        for member in came:
            reached[self.holders[member]] = True
        return list(reached) + [member for member in members if member not in came]

"""Courses: which things they lead to, each with the first course that does."""


class Courses:
    """What can be reached from a first thing, in the order of the first courses that lead there.

    Shorter courses come first, of equally long ones that with the smaller letters.

    things: what is reached; there may be more of it if `most` of it were found.
    """

    def __init__(self, first, all_after, most):
        """all_after(thing) tells for each letter to which thing it leads."""
        self.things = [first]
        self._came = [None]
        found = {first: True}
        place = 0
        while place < len(self.things) and len(self.things) < most:
            row = all_after(self.things[place])
            for letter, thing in enumerate(row):
                if thing not in found:
                    found[thing] = True
                    self.things.append(thing)
                    self._came.append((place, letter))
            place += 1

    def course(self, place):
        """The first course that leads to a thing, told by its place."""
        letters = []
        while self._came[place] is not None:
            place, letter = self._came[place]
            letters.append(letter)
        return letters[::-1]

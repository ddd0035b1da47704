"""Stories: items in the order in which they came, and what was sure after each of them."""

from surelyseen.answers import answer
from surelyseen.boxes import narrowed_by
from surelyseen.cases import cases
from surelyseen.flows import fit
from surelyseen.gathering import box_of


class Story:
    """A story; the boxes of the first items are kept for further questions, which have few cases."""

    def __init__(self, setup, items):
        self._setup = setup
        self._items = list(items)
        self._boxes = {}

    def standing(self, question):
        """The first entry of the answer for all items, and after how many items it was "yes" first, or None.

        With each item fewer runs fit, so after a "yes" there is never another word than "yes" and "clash".
        """
        word = answer(self._box(len(self._items)), question)[0]
        return (word, self._since(question) if word in ("yes", "clash") else None)

    def _since(self, question):
        """After how many items all cases in which the question fails clash, or None if then the items do, too."""
        many = 0
        for demands in cases(self._setup.world, question, holding=False):
            many = self._first_clash(many, demands)
        return None if self._clashes(many, []) else many

    def _first_clash(self, low, demands):
        """The least number of items, from a number on, with which demands clash; with all items they do."""
        if self._clashes(low, demands):
            return low
        high = len(self._items)
        while high - low > 1:
            middle = (low + high) // 2
            if self._clashes(middle, demands):
                high = middle
            else:
                low = middle
        return high

    def _clashes(self, many, demands):
        return fit(narrowed_by(self._box(many), demands))[0] == "clash"

    def _box(self, many):
        """The box of the first so many items."""
        if many not in self._boxes:
            self._boxes[many] = box_of(self._setup, self._items[:many])
        return self._boxes[many]

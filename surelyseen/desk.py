"""The desk: gathers item by item, answers at any time, watches alerts, keeps promises and takes back deeds."""

from surelyseen.answers import answer, answer_with
from surelyseen.cases import check_cases
from surelyseen.clashes import least_clash
from surelyseen.errors import BadName, NothingToUndo, WouldLose
from surelyseen.flows import fit, fitting_run, lowered, raised
from surelyseen.gathering import box_of
from surelyseen.names import is_name
from surelyseen.questions import check_question
from surelyseen.reading import read_question, written_question
from surelyseen.reasons import reasons
from surelyseen.setups import check_item
from surelyseen.stories import Story
from surelyseen.telling import check_sums
from surelyseen.world import check_sum


class Desk:
    """A desk; its methods do what they say to the items that it holds."""

    def __init__(self, setup):
        self.setup = setup
        self._held = []
        self._alerts = []
        self._promises = []
        self._deeds = []
        self._before = []

    def __eq__(self, other):
        if not isinstance(other, Desk):
            return False
        if self.setup != other.setup or self._alerts != other._alerts or self._promises != other._promises:
            return False
        return len(self._held) == len(other._held) and all([item in other._held for item in self._held])

    def __len__(self):
        return len(self._held)

    def __contains__(self, item):
        return item in self._held

    def __iter__(self):
        return iter(self._held)

    def take(self, item):
        """Hold an item; whether it is new."""
        check_item(self.setup, item)
        if item in self._held:
            return False
        self._begin(("take", item))
        self._held.append(item)
        return True

    def held(self):
        """The held items in the order in which they came."""
        return list(self._held)

    def box(self):
        """The box that the held items say."""
        return box_of(self.setup, self._held)

    def clash(self):
        """A least clash of the held items, or None."""
        return least_clash(self.setup, self._held)

    def ask(self, text):
        """The answer to a written question."""
        question = read_question(text)
        return answer(self.box(), question)

    def reasons(self, text):
        """The items that make the answer to a written question sure, or None."""
        question = read_question(text)
        return reasons(self.setup, self._held, question)

    def report(self, who, level):
        """The least and the greatest value of each window of a level: triples (index, least, greatest)."""
        check_sum(self.setup.world, (who, level, 0))
        box = self.box()
        run = fitting_run(box)
        found = []
        for index in range(_windows(self.setup.world, level)):
            low, high = _value_range(box, run, (who, level, index))
            found.append((index, low, high))
        return found

    def firing(self, who, level, sign, number):
        """Whether each window of a level compares so with a number: "yes", "no" or "open"."""
        check_question(self.setup.world, ("is", (who, level, 0), sign, number))
        box = self.box()
        fitted = ("run", fitting_run(box))
        return [
            answer_with(box, fitted, ("is", (who, level, index), sign, number))[0]
            for index in range(_windows(self.setup.world, level))
        ]

    def only_run(self):
        """The run that fits if there is exactly one, otherwise None."""
        box = self.box()
        word, run = fit(box)
        if word == "clash":
            return None
        for name, _, _ in self.setup.world.streams:
            for tick in range(self.setup.world.ticks):
                low, high = _value_range(box, run, (name, 0, tick))
                if low < high:
                    return None
        return run

    def watch(self, name, text):
        """Add an alert: a name and a written question."""
        if not is_name(name) or name in [known for known, _ in self._alerts]:
            raise BadName(name)
        question = read_question(text)
        check_cases(self.setup.world, question)
        self._begin(("watch", name, written_question(question)))
        self._alerts.append((name, question))

    def alerts(self):
        """Triples (name, word, since): what is sure of each alert, and after how many items "yes" was sure first."""
        story = Story(self.setup, self._held)
        return [(name,) + story.standing(question) for name, question in self._alerts]

    def promise(self, asked):
        """Promise a sum; whether it was not promised before."""
        check_sum(self.setup.world, asked)
        if asked in self._promises:
            return False
        self._begin(("promise", asked))
        self._promises.append(asked)
        return True

    def promises(self):
        """The promised sums in the order in which they were added."""
        return list(self._promises)

    def forget(self, kept):
        """Forget everything but the least and greatest values of some sums; the items held then."""
        world = self.setup.world
        check_sums(world, kept)
        box = self.box()
        run = fitting_run(box)
        named = [asked for asked in world.order if asked in kept]
        items = [("total", asked) + _value_range(box, run, asked) for asked in named]
        wider = box_of(self.setup, items)
        for asked in self._promises:
            if _value_range(wider, run, asked) != _value_range(box, run, asked):
                raise WouldLose(asked)
        self._begin(("forget", tuple(named)))
        self._held = items
        return self.held()

    def deeds(self):
        """The deeds that stand, in their order."""
        return list(self._deeds)

    def undo(self):
        """Take back the last deed that stands; the deed."""
        if not self._deeds:
            raise NothingToUndo("no deed stands")
        held, alerts, promises = self._before.pop()
        self._held = list(held)
        self._alerts = list(alerts)
        self._promises = list(promises)
        return self._deeds.pop()

    def twin(self):
        """A new desk with the same deeds."""
        other = Desk(self.setup)
        other._held = list(self._held)
        other._alerts = list(self._alerts)
        other._promises = list(self._promises)
        other._deeds = list(self._deeds)
        other._before = list(self._before)
        return other

    def _begin(self, deed):
        """A deed begins: keep it, and how the desk was before it."""
        self._deeds.append(deed)
        self._before.append((tuple(self._held), tuple(self._alerts), tuple(self._promises)))


def replay(setup, deeds):
    """A new desk on which the deeds were done in their order."""
    desk = Desk(setup)
    for deed in deeds:
        word = deed[0]
        if word == "take":
            desk.take(deed[1])
        elif word == "watch":
            desk.watch(deed[1], deed[2])
        elif word == "promise":
            desk.promise(deed[1])
        else:
            desk.forget(deed[1])
    return desk


def _windows(world, level):
    """The number of windows of a level."""
    return world.ticks // world.sizes[level]


def _value_range(box, run, asked):
    """The least and the greatest value of a sum in the runs that fit, found from one of them."""
    return (lowered(box, run, asked)[0], raised(box, run, asked)[0])

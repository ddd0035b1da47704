"""A desk for the tests, which lists all runs that fit whatever it is asked."""

from asking import own_holds
from helpers import own_sums, own_value
from sureness import own_least_clash, own_reasons
from surelyseen.reading import read_question, written_question


class OwnDesk:
    """What a desk must tell; each deed stands beside how the desk was before it."""

    def __init__(self, happenings, runs):
        self.happenings = happenings
        self.world = happenings.setup.world
        self.runs = runs
        self.held, self.alerts, self.promises, self.deeds, self.past = [], [], [], [], []
        self.known = {}

    def fitting(self, items):
        key = tuple(items)
        if key not in self.known:
            self.known[key] = [run for run in self.runs if self.happenings.fits(list(items), run)]
        return self.known[key]

    def begin(self, deed):
        self.deeds.append(deed)
        self.past.append((list(self.held), list(self.alerts), list(self.promises)))

    def take(self, item):
        if item in self.held:
            return False
        self.begin(("take", item))
        self.held.append(item)
        return True

    def watch(self, name, text):
        question = read_question(text)
        self.begin(("watch", name, written_question(question)))
        self.alerts.append((name, question))

    def promise(self, asked):
        if asked in self.promises:
            return False
        self.begin(("promise", asked))
        self.promises.append(asked)
        return True

    def range_of(self, runs, asked):
        values = [own_value(self.world, run, asked) for run in runs]
        return (min(values), max(values))

    def forget(self, kept):
        """The items held then, "clash", or the first promised sum that would be lost."""
        runs = self.fitting(self.held)
        if not runs:
            return "clash"
        named = [asked for asked in own_sums(self.world) if asked in kept]
        items = [("total", asked) + self.range_of(runs, asked) for asked in named]
        for asked in self.promises:
            if self.range_of(self.fitting(items), asked) != self.range_of(runs, asked):
                return asked
        self.begin(("forget", tuple(named)))
        self.held = items
        return items

    def undo(self):
        self.held, self.alerts, self.promises = self.past.pop()
        return self.deeds.pop()

    def word(self, items, question):
        verdicts = {own_holds(self.world, run, question) for run in self.fitting(items)}
        return {(): "clash", (True,): "yes", (False,): "no", (False, True): "open"}[tuple(sorted(verdicts))]

    def told_alerts(self):
        found = []
        for name, question in self.alerts:
            words = [self.word(self.held[:many], question) for many in range(len(self.held) + 1)]
            found.append((name, words[-1], words.index("yes") if "yes" in words else None))
        return found

    def clash(self):
        return own_least_clash(self.held, lambda items: bool(self.fitting(items)))

    def reasons(self, question):
        return own_reasons(self.held, lambda items: self.word(items, question))

    def report(self, who, level):
        """The triples of a report, or None if no run fits."""
        runs = self.fitting(self.held)
        sums = [asked for asked in own_sums(self.world) if asked[:2] == (who, level)]
        return [(asked[2],) + self.range_of(runs, asked) for asked in sums] if runs else None

    def firing(self, who, level, sign, number):
        sums = [asked for asked in own_sums(self.world) if asked[:2] == (who, level)]
        return [self.word(self.held, ("is", asked, sign, number)) for asked in sums]

    def only_run(self):
        runs = self.fitting(self.held)
        return runs[0] if len(runs) == 1 else None


def roughly_written(draw, question):
    """A text that tells the question with needless blanks and parentheses."""
    text = written_question(question).replace("(", draw.choice(["(", "( ", " (  ("])) if draw.random() < 0.2 else written_question(question)
    if text.count("(") != text.count(")"):
        text = written_question(question)
    for _ in range(draw.randint(0, 2)):
        text = draw.choice(["({})", "( {} )", "{} ", "((  {}))"]).format(text)
    return text.replace(" ", draw.choice([" ", "  "]))

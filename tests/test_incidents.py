"""Incidents (point 72)."""

import itertools
import unittest

from helpers import draws
from surelyseen.incidents import incident_range, incidents, joined, possible_incidents, silenced


def own_incidents(settled, gap):
    """The pairs (first, last), found by cutting the text wherever more than gap times "no" follow each other."""
    found = []
    ticks = [tick for tick, word in enumerate(settled) if word == "yes"]
    for tick in ticks:
        apart = not found or tick - found[-1][-1] > gap + 1
        if apart:
            found.append([tick])
        else:
            found[-1].append(tick)
    return [(group[0], group[-1]) for group in found]


def settlements(firing):
    choices = [("yes", "no") if word == "open" else (word,) for word in firing]
    return [list(settled) for settled in itertools.product(*choices)]


def own_joined(settled, first, last, gap):
    """Whether both ticks are "yes" and nowhere between them more than gap times "no" follow each other."""
    if settled[first] != "yes" or settled[last] != "yes":
        return False
    between = settled[first:last]
    return not any(
        all(word == "no" for word in between[k:k + gap + 1]) for k in range(len(between) - gap)
    )


def drawn_firing(draw, ticks, weights=(3, 3, 3)):
    return draw.choices(("yes", "no", "open"), weights, k=ticks)


class IncidentsTest(unittest.TestCase):
    def test_against_all_settlements(self):
        draw = draws(530)
        for _ in range(400):
            firing = drawn_firing(draw, draw.randint(0, 9), draw.choice([(3, 3, 3), (2, 6, 2), (1, 3, 5)]))
            gap = draw.choice([0, 0, 1, 1, 2, 3, 8, 9, 10, 50])
            before = list(firing)
            found = [own_incidents(settled, gap) for settled in settlements(firing)]
            self.assertEqual(incidents(firing, gap=gap), own_incidents(["yes" if word == "yes" else "no" for word in firing], gap))
            self.assertEqual(possible_incidents(firing, gap=gap), own_incidents(["no" if word == "no" else "yes" for word in firing], gap))
            numbers = [len(pairs) for pairs in found]
            self.assertEqual(incident_range(firing, gap=gap), (min(numbers), max(numbers)))
            self.assertEqual(firing, before)

    def test_joined_against_all_settlements(self):
        draw = draws(531)
        words = []
        for _ in range(150):
            firing = drawn_firing(draw, draw.randint(1, 8), draw.choice([(3, 3, 3), (5, 2, 4)]))
            gap = draw.choice([0, 1, 2, 7, 30])
            settled = settlements(firing)
            for first in range(len(firing)):
                for last in range(first, len(firing)):
                    marks = {own_joined(words, first, last, gap) for words in settled}
                    word = "open" if len(marks) == 2 else "yes" if True in marks else "no"
                    self.assertEqual(joined(firing, first, last, gap=gap), word)
                    words.append(word)
        for word in ("yes", "no", "open"):
            self.assertGreater(words.count(word), 100)

    def test_edges(self):
        for call in (incidents, possible_incidents):
            self.assertEqual(call([]), [])
            self.assertEqual(call(["no"] * 3), [])
            self.assertEqual(call(["yes", "yes", "no", "yes", "yes", "yes"]), [(0, 1), (3, 5)])
            self.assertEqual(call(["yes", "no", "yes"]), [(0, 0), (2, 2)])
            self.assertEqual(call(["yes", "no", "yes"], gap=1), [(0, 2)])
            self.assertEqual(call(["no", "yes", "no", "no", "yes"], gap=1), [(1, 1), (4, 4)])
            self.assertEqual(call(["no", "yes", "no", "no", "yes"], gap=2), [(1, 4)])
        self.assertEqual(incident_range([]), (0, 0))
        self.assertEqual(incident_range(["open"]), (0, 1))
        self.assertEqual(incident_range(["yes", "open", "yes"]), (1, 2))
        self.assertEqual(incident_range(["open"] * 5), (0, 3))
        self.assertEqual(incident_range(["open"] * 5, gap=1), (0, 2))
        self.assertEqual(joined(["yes", "yes"], 0, 1), "yes")
        self.assertEqual(incident_range(["yes", "yes", "open"]), (1, 1))
        self.assertEqual(joined(["yes"], 0, 0), "yes")
        self.assertEqual(joined(["open"], 0, 0), "open")
        self.assertEqual(joined(["no"], 0, 0, gap=5), "no")
        self.assertEqual(joined(["yes", "open", "yes"], 0, 2), "open")
        self.assertEqual(joined(["yes", "open", "yes"], 0, 2, gap=1), "yes")
        self.assertEqual(joined(["yes", "open", "no", "yes"], 0, 3), "no")
        self.assertEqual(joined(["yes", "no", "yes"], 0, 1, gap=4), "no")

    def test_large(self):
        draw = draws(532)
        for gap in (0, 1, 5, 50, 199, 200, 1000):
            firing = drawn_firing(draw, 200, (1, 4, 2))
            least, most = incident_range(firing, gap=gap)
            self.assertLessEqual(least, len(incidents(firing, gap=gap)))
            self.assertLessEqual(len(possible_incidents(firing, gap=gap)), most)
            self.assertEqual(own_range(firing, gap), (least, most))
            for first in range(0, 200, 7):
                joined(firing, first, 199, gap=gap)

    def test_silenced(self):
        firing = ["yes", "open", "no", "yes", "open", "yes"]
        for silences, found in (
            ([], firing), ([(0, 0)], ["no"] + firing[1:]), ([(1, 4)], ["yes", "no", "no", "no", "no", "yes"]), ([(4, 99)], firing[:4] + ["no", "no"]),
            ([(-5, 1)], ["no", "no"] + firing[2:]), ([(-9, -1), (6, 8)], firing), ([(-3, 50)], ["no"] * 6), ([(5, 5), (0, 1), (0, 0)], ["no"] * 3 + ["yes", "open", "no"]),
            ([(-1, -1)], firing),
        ):
            given = list(silences)
            self.assertEqual(silenced(firing, given), found)
            self.assertEqual(given, silences)
        self.assertEqual(silenced([], [(0, 5)]), [])
        same = silenced(firing, [])
        same.clear()
        self.assertEqual(firing, ["yes", "open", "no", "yes", "open", "yes"])

    def test_silenced_against_each_tick(self):
        draw = draws(533)
        for _ in range(100):
            firing = drawn_firing(draw, draw.randint(0, 12))
            silences = [tuple(sorted(draw.choices(range(-4, 17), k=2))) for _ in range(draw.randint(0, 4))]
            quiet = {tick for first, last in silences for tick in range(first, last + 1)}
            self.assertEqual(silenced(firing, silences), ["no" if tick in quiet else word for tick, word in enumerate(firing)])

    def test_returned_lists_may_change(self):
        firing = ["yes", "no", "open", "yes"]
        for call in (incidents, possible_incidents):
            kept = list(call(firing))
            call(firing).clear()
            self.assertEqual(call(firing), kept)


def own_range(firing, gap):
    """The least and the greatest number of incidents, told tick by tick from how long ago the last "yes" was."""
    states = {None: (0, 0)}
    for word in firing:
        after = {}
        for quiet, (least, most) in states.items():
            choices = []
            if word != "no":
                new = 1 if quiet is None or quiet > gap else 0
                choices.append((0, least + new, most + new))
            if word != "yes":
                choices.append((None if quiet is None else quiet + 1, least, most))
            for state, low, high in choices:
                old = after.get(state, (low, high))
                after[state] = (min(low, old[0]), max(high, old[1]))
        states = after
    return (min(low for low, _ in states.values()), max(high for _, high in states.values()))


if __name__ == "__main__":
    unittest.main()

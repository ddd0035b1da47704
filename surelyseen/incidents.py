"""Incidents: which ticks with "yes" belong together."""


def incidents(firing, *, gap=0):
    """The pairs (first, last) of the incidents if every "open" is a "no"."""
    return _joined_ticks(firing, ("yes",), gap)


def possible_incidents(firing, *, gap=0):
    """The pairs (first, last) of the incidents if every "open" is a "yes"."""
    return _joined_ticks(firing, ("yes", "open"), gap)


def incident_range(firing, *, gap=0):
    """The least and the greatest number of incidents in all settlements.

    There are fewest if of the possible incidents those stay whole that have a "yes", and the others vanish. There are
    most if an "open" is a "yes" exactly where it begins an incident.
    """
    least = 0
    for first, last in possible_incidents(firing, gap=gap):
        if "yes" in firing[first:last + 1]:
            least += 1
    most = 0
    last = None
    for tick, word in enumerate(firing):
        begins = last is None or tick - last - 1 > gap
        if word == "yes" or (word == "open" and begins):
            most = most + 1 if begins else most
            last = tick
    return (least, most)


def joined(firing, first, last, *, gap=0):
    """Whether two ticks are "yes" and of one incident in all settlements, in none, or in some: "yes", "no", "open"."""
    if _is_within(incidents(firing, gap=gap), first, last) and firing[first] == firing[last] == "yes":
        return "yes"
    open_too = firing[first] != "no" and firing[last] != "no"
    return "open" if open_too and _is_within(possible_incidents(firing, gap=gap), first, last) else "no"


def silenced(firing, silences):
    """The firing with "no" at the ticks of the silences."""
    found = []
    for tick, word in enumerate(firing):
        quiet = any([first <= tick <= last for first, last in silences])
        found.append("no" if quiet else word)
    return found


def _joined_ticks(firing, words, gap):
    """The pairs (first, last) of the incidents if the ticks with these words are those with "yes"."""
    ticks = [tick for tick, word in enumerate(firing) if word in words]
    found = []
    for place, tick in enumerate(ticks):
        if place > 0 and tick - ticks[place - 1] - 1 <= gap:
            first, _ = found.pop()
            found.append((first, tick))
        else:
            found.append((tick, tick))
    return found


def _is_within(pairs, first, last):
    return any([begin <= first and last <= end for begin, end in pairs])

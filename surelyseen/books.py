"""Books: the written forms of deeds and of lists of deeds."""

from surelyseen.errors import BadQuestion, BadText
from surelyseen.items import item_in, written_item
from surelyseen.names import is_name
from surelyseen.reading import read_question, written_question
from surelyseen.texts import meanings
from surelyseen.written import sum_in, written_sum


def written_deed(deed):
    """The line that is the written form of a deed."""
    word = deed[0]
    if word == "take":
        return f"take {written_item(deed[1])}"
    if word == "watch":
        return f"watch {deed[1]} {deed[2]}"
    if word == "promise":
        return f"promise {written_sum(deed[1])}"
    return " ".join(["forget"] + [written_sum(asked) for asked in deed[1]])


def read_deed(line):
    """The deed with this written form, without knowing the setup."""
    deed = deed_in(line)
    if deed is None:
        raise BadText(line)
    return deed


def written_book(deeds):
    """The book with one line for each deed."""
    return "".join([written_deed(deed) + "\n" for deed in deeds])


def read_book(text):
    """The deeds of a book, without knowing the setup."""
    return meanings(text, deed_in)


def deed_in(line):
    """The deed with this written form, or None if it is none."""
    word, blank, rest = line.partition(" ")
    if word == "watch":
        return _watch_in(rest)
    if word == "forget":
        return _forget_in(rest.split(" ") if blank else [])
    meaning = item_in(rest) if word == "take" else sum_in(rest) if word == "promise" else None
    return None if meaning is None else (word, meaning)


def _watch_in(rest):
    """The deed of watching with this name and question, or None."""
    name, _, text = rest.partition(" ")
    if not is_name(name) or text.startswith(" "):
        return None
    try:
        question = read_question(text)
    except BadQuestion:
        return None
    return ("watch", name, written_question(question))


def _forget_in(words):
    """The deed of forgetting all but the sums with these written forms, or None."""
    named = [sum_in(word) for word in words]
    return None if None in named else ("forget", tuple(named))

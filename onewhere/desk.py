"""A desk that is told lines and answers them ([121])."""

from onewhere.books import Book
from onewhere.clocks import check_zones, day_of, shown
from onewhere.errors import NoLine, NoText
from onewhere.exact import is_word
from onewhere.places import anchor_on, held_on, lead_on
from onewhere.routes import least
from onewhere.texts import form_text, fraction_text, read_form, read_whole, whole_text

DONE = "ok"
NONE = "none"
# What stands behind the first word of a line, each but forms one word.
LINES = {
    "put": ("name", "count", "form"),
    "drop": ("name", "count"),
    "undo": (),
    "where": ("name", "count"),
    "names": ("count",),
    "lead": ("count", "kind", "form"),
    "held": ("count", "forms"),
    "clock": ("count", "form"),
    "route": ("forms",),
}


def read_name(text):
    if not is_word(text):
        raise NoLine("this is no word: one to eight small letters")
    return text


def read_count(text):
    """A day, an instant or a depth, which all are whole numbers from 0 on."""
    number = read_whole(text)
    if number < 0:
        raise NoLine("this is no whole number from 0 on")
    return number


def read_kind(text):
    """A kind to which forms are led, be it one of the atlas or not."""
    word, colon, rest = text.partition(":")
    if word == "point":
        return word, read_name(rest)
    if word == "tile":
        return word, read_count(rest)
    if text not in ("spot", "address", "region"):
        raise NoLine("this is no kind as it is written")
    return text


def read_forms(text):
    """The two forms with a `;` between."""
    one, mark, other = text.partition(" ; ")
    return read_form(one), read_form(other)


def read_part(kind, text):
    """What a part of a line tells, by what stands there."""
    if kind == "name":
        return read_name(text)
    if kind == "count":
        return read_count(text)
    if kind == "kind":
        return read_kind(text)
    return read_form(text) if kind == "form" else read_forms(text)


def parts_of(line, kinds):
    """The texts of the parts of a line, as many as there are kinds; the last one may be of several words."""
    rest = line.split(" ", len(kinds))[1:]
    if len(rest) != len(kinds):
        raise NoLine("this line has too few words")
    return rest


def read_line(line):
    """(word, parts) of a line."""
    if not isinstance(line, str):
        raise NoLine("this is no text")
    word = line.split(" ")[0]
    if word not in LINES:
        raise NoLine("no line begins so")
    kinds = LINES[word]
    if not kinds and line != word:
        raise NoLine("this line has too many words")
    try:
        return word, [read_part(kind, text) for kind, text in zip(kinds, parts_of(line, kinds))]
    except NoText:
        raise NoLine("this line has something else than told") from None


def answer_put(desk, parts):
    name, day, form = parts
    desk.book.put(name, form, day)
    return DONE


def answer_drop(desk, parts):
    name, day = parts
    desk.book.drop(name, day)
    return DONE


def answer_undo(desk, parts):
    desk.book.undo()
    return DONE


def answer_where(desk, parts):
    name, day = parts
    form = desk.book.where(name, day)
    return NONE if form is None else form_text(form)


def answer_names(desk, parts):
    return " ".join(desk.book.names(parts[0])) or NONE


def answer_lead(desk, parts):
    day, kind, form = parts
    found, off = lead_on(desk.book.atlas, day, form, kind)
    return form_text(found) + " " + fraction_text(off)


def answer_held(desk, parts):
    day, (one, other) = parts
    return held_on(desk.book.atlas, day, one, other)


def answer_clock(desk, parts):
    instant, form = parts
    frames, web, rows, moves = desk.book.atlas
    point = anchor_on(desk.book.atlas, day_of(instant), form)
    return " ".join([whole_text(number) for number in shown(moves, desk.zones, point, instant)])


def spot_on_day_0(atlas, form):
    """The spot to which a form is led on day 0."""
    (word, road, far), off = lead_on(atlas, 0, form, "spot")
    return road, far


def answer_route(desk, parts):
    frames, web, rows, moves = desk.book.atlas
    start, goal = [spot_on_day_0(desk.book.atlas, form) for form in parts[0]]
    long = least(web, start, goal)
    return NONE if long is None else fraction_text(long)


ANSWERS = {
    "put": answer_put,
    "drop": answer_drop,
    "undo": answer_undo,
    "where": answer_where,
    "names": answer_names,
    "lead": answer_lead,
    "held": answer_held,
    "clock": answer_clock,
    "route": answer_route,
}


class Desk:
    """A book of an atlas, and zones, of which lines tell and ask."""

    def __init__(self, atlas, zones=()):
        self.book = Book(atlas)
        check_zones(zones)
        self.zones = zones

    def say(self, line):
        """The answer to the line."""
        word, parts = read_line(line)
        answer = ANSWERS[word]
        return answer(self, parts)

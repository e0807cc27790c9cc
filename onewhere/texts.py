"""Fractions and forms as texts ([120])."""

from onewhere.errors import NoForm, NoPoint, NoText
from onewhere.exact import is_fraction, is_from_zero, is_tuple, is_word
from onewhere.points import is_point
from onewhere.tiles import is_code

NO_FIGURES = "-"
FIGURES_AT_ONCE = 64
TOO_MANY_AT_ONCE = 10 ** 64
# What stands behind the first word of a form.
SHAPES = {
    "point": ("word", "fraction", "fraction"),
    "tile": ("code",),
    "spot": ("whole", "fraction"),
    "address": ("word", "whole"),
    "region": ("word",),
}


def whole_text(number):
    """The text of a whole number."""
    if number < 0:
        return "-" + whole_text(-number)
    text = ""
    # Python writes just a few thousand figures at once, and what is told may have more.
    while number >= TOO_MANY_AT_ONCE:
        number, behind = divmod(number, TOO_MANY_AT_ONCE)
        text = str(behind).zfill(FIGURES_AT_ONCE) + text
    return str(number) + text


def read_whole(text):
    """The whole number of a text; it is known to be a text."""
    figures = text[1:] if text.startswith("-") else text
    if not all("0" <= figure <= "9" for figure in figures):
        raise NoText("this is no whole number")
    number = 0
    for figure in figures:
        number = 10 * number + int(figure)
    if text.startswith("-"):
        number = -number
    # So a nought ahead, none at all, and 0 below 0 are shut out, too.
    if whole_text(number) != text:
        raise NoText("this is no whole number as it is written")
    return number


def text_of_fraction(fraction):
    """The text of a fraction that is known to be one."""
    top, bottom = fraction
    return whole_text(top) if bottom == 1 else whole_text(top) + "/" + whole_text(bottom)


def fraction_text(fraction):
    """The text of the fraction."""
    if not is_fraction(fraction):
        raise NoPoint("this is no fraction: (top, bottom) in least terms")
    return text_of_fraction(fraction)


def check_text(thing):
    if not isinstance(thing, str):
        raise NoText("this is no text")


def read_fraction(text):
    """The fraction that is so written."""
    check_text(text)
    top, stroke, bottom = text.partition("/")
    fraction = (read_whole(top), read_whole(bottom) if stroke else 1)
    if not is_fraction(fraction) or text_of_fraction(fraction) != text:
        raise NoText("this is no fraction in least terms as it is written")
    return fraction


def has_form_shape(thing):
    """Whether this has the shape of a form, whatever the atlas."""
    if not is_tuple(thing, 2, 4) or not isinstance(thing[0], str):
        return False
    match thing:
        case ("point", frame, x, y):
            return is_word(frame) and is_point((x, y))
        case ("tile", code):
            return is_code(code)
        case ("spot", road, far):
            return is_from_zero(road) and is_fraction(far)
        case ("address", street, number):
            return is_word(street) and is_from_zero(number)
        case ("region", name):
            return is_word(name)
        case _:
            return False


def part_text(part):
    """The text of a part of a form: a fraction, a whole number, a word or a code."""
    if isinstance(part, tuple):
        return text_of_fraction(part)
    if isinstance(part, int):
        return whole_text(part)
    return part or NO_FIGURES


def text_of_form(form):
    """The text of what is known to have the shape of a form."""
    return " ".join([part_text(part) for part in form])


def form_text(form):
    """The text of what has the shape of a form."""
    if not has_form_shape(form):
        raise NoForm("this has not the shape of a form")
    return text_of_form(form)


def read_part(kind, word):
    """The part of a form that a word is, by what stands there."""
    if kind == "fraction":
        return read_fraction(word)
    if kind == "whole":
        return read_whole(word)
    return "" if kind == "code" and word == NO_FIGURES else word


def read_form(text):
    """What has the shape of a form and is so written."""
    check_text(text)
    first, *words = text.split(" ")
    kinds = SHAPES.get(first, ())
    if len(words) != len(kinds):
        raise NoText("this is no form as it is written: other words, or another number of them")
    form = (first,) + tuple([read_part(kind, word) for kind, word in zip(kinds, words)])
    if not has_form_shape(form) or text_of_form(form) != text:
        raise NoText("this is no form as it is written")
    return form

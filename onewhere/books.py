"""A book of named places, kept by deeds from day to day ([110])."""

from onewhere.errors import NoDay, NoDeed, NoName
from onewhere.exact import check_day, is_word
from onewhere.places import check_atlas, check_form, held_of, is_form_of


def check_name(thing):
    if not is_word(thing):
        raise NoName("this is no name: a text of one to eight small letters")


class Book:
    """Named places of an atlas."""

    def __init__(self, atlas):
        check_atlas(atlas)
        self.atlas = atlas
        # The deeds that stand, each (day, name, form), None where the name was dropped.
        self.deeds = []

    def check_deed(self, name, day):
        check_name(name)
        check_day(day)
        if self.deeds and day < self.deeds[-1][0]:
            raise NoDay("this day is earlier than that of the last deed that stands")

    def forms_on(self, day):
        """The form of each name that has one on a day, as the deeds tell it."""
        last = {}
        for since, name, form in self.deeds:
            if since <= day:
                last[name] = form
        return {name: last[name] for name in last if last[name] is not None}

    def put(self, name, form, day):
        """From that day on the name means the form."""
        self.check_deed(name, day)
        check_form(self.atlas, day, form)
        self.deeds.append((day, name, form))

    def drop(self, name, day):
        """From that day on the name means nothing any more."""
        self.check_deed(name, day)
        if name not in self.forms_on(day):
            raise NoName("this name means nothing on that day")
        self.deeds.append((day, name, None))

    def undo(self):
        """The last deed that stands is taken back."""
        if not self.deeds:
            raise NoDeed("there is no deed that stands")
        self.deeds.pop()

    def where(self, name, day):
        """The form that the name means on the day, be it a form then or not any more; None where it means none."""
        check_name(name)
        check_day(day)
        return self.forms_on(day).get(name)

    def names(self, day):
        """The names, rising, that mean something on the day."""
        check_day(day)
        return tuple(sorted(self.forms_on(day)))

    def known(self, form, day):
        """The names, rising, whose forms may be the same place as the form on the day."""
        check_day(day)
        check_form(self.atlas, day, form)
        forms = self.forms_on(day)
        return tuple([name for name in sorted(forms) if self.may_be(forms[name], form, day)])

    def may_be(self, kept, form, day):
        """Whether a form that is kept is one on the day, and held against a form not surely another place."""
        return is_form_of(self.atlas, day, kept) and held_of(self.atlas, day, kept, form) != "two"

    def history(self, name):
        """(day, form or None) of each day with a deed of the name, as the last one of the day tells it."""
        check_name(name)
        last = {}
        for day, named, form in self.deeds:
            if named == name:
                last[day] = form
        # Days don't fall, so the dict has them in their order.
        return tuple([(day, last[day]) for day in last])

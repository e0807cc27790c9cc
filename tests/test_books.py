"""books: [110]."""

import random

from onewhere.books import Book
from onewhere.errors import NoAtlas, NoDay, NoDeed, NoForm, NoName
from onewhere.places import is_form
from tests.atlas import ATLAS, BAD, BARE, at, spot
from tests.forms import held_by_the_words, some_atlas, some_form
from tests.things import ANYTHING, BIG, OUTLANDISH, Prickly, Refusals

NO_WORDS = ("", "Home", "ninechars", "a b", "a1", "-", 1, None, True, ("home",), ["home"], b"home", {}, Prickly())
NO_DAYS = (-1, -BIG, True, False, None, "5", (5,), [5], 5.0, {}, Prickly())
TILE, OAK, ELM = ("tile", "0001"), ("address", "oak", 2), ("address", "elm", 1)


def told(book):
    """All that a book tells, name by name and day by day."""
    names = ("a", "b", "c", "home", "work")
    return (
        [book.names(day) for day in range(12)], [book.where(name, day) for name in names for day in range(12)],
        [book.history(name) for name in names], [book.known(TILE, day) for day in range(12)],
    )


class Deeds(Refusals):
    def test_a_new_book(self):
        book = Book(ATLAS)
        for day in (0, 5, BIG):
            self.assertEqual(book.names(day), ())
            self.assertIsNone(book.where("home", day))
            self.assertEqual(book.known(TILE, day), ())
        self.assertEqual(book.history("home"), ())

    def test_put(self):
        book = Book(ATLAS)
        self.assertIsNone(book.put("home", OAK, 3))
        self.assertIsNone(book.where("home", 2))
        for day in (3, 4, 9, 10, BIG):
            self.assertEqual(book.where("home", day), OAK)
        self.assertEqual(book.history("home"), ((3, OAK),))

    def test_put_anew(self):
        book = Book(ATLAS)
        book.put("home", OAK, 3)
        book.put("home", TILE, 5)
        self.assertEqual([book.where("home", day) for day in (2, 3, 4, 5, 6)], [None, OAK, OAK, TILE, TILE])
        self.assertEqual(book.history("home"), ((3, OAK), (5, TILE)))

    def test_put_again_alike(self):
        book = Book(ATLAS)
        book.put("home", TILE, 3)
        book.put("home", TILE, 5)
        self.assertEqual(book.history("home"), ((3, TILE), (5, TILE)))

    def test_drop(self):
        book = Book(ATLAS)
        book.put("home", OAK, 3)
        self.assertIsNone(book.drop("home", 6))
        self.assertEqual([book.where("home", day) for day in (2, 3, 5, 6, 7)], [None, OAK, OAK, None, None])
        self.assertEqual(book.history("home"), ((3, OAK), (6, None)))
        book.put("home", TILE, 7)
        self.assertEqual(book.history("home"), ((3, OAK), (6, None), (7, TILE)))
        self.assertEqual([book.where("home", day) for day in (5, 6, 7)], [OAK, None, TILE])

    def test_of_one_day_the_last_one_alone(self):
        book = Book(ATLAS)
        book.put("home", OAK, 3)
        book.put("home", TILE, 3)
        self.assertEqual(book.history("home"), ((3, TILE),))
        book.drop("home", 3)
        self.assertEqual(book.history("home"), ((3, None),))
        self.assertIsNone(book.where("home", 3))
        book.put("home", OAK, 3)
        book.put("work", TILE, 3)
        self.assertEqual(book.history("home"), ((3, OAK),))
        self.assertEqual(book.names(3), ("home", "work"))
        book.drop("home", 4)
        book.put("home", ELM, 5)
        self.assertEqual(book.history("home"), ((3, OAK), (4, None), (5, ELM)))

    def test_names_know_nothing_of_one_another(self):
        book = Book(ATLAS)
        book.put("home", OAK, 3)
        book.put("work", TILE, 4)
        book.drop("home", 5)
        self.assertEqual(book.history("home"), ((3, OAK), (5, None)))
        self.assertEqual(book.history("work"), ((4, TILE),))
        self.assertEqual(book.where("work", 5), TILE)

    def test_undone_one_by_one(self):
        book = Book(ATLAS)
        steps = [
            lambda: book.put("home", OAK, 1), lambda: book.put("work", TILE, 1), lambda: book.put("home", TILE, 1),
            lambda: book.drop("work", 2), lambda: book.put("a", ("region", "west"), 4), lambda: book.drop("home", 6),
            lambda: book.put("home", at(1, 1), 6), lambda: book.put("work", spot(0, 5), 9),
        ]
        seen = []
        for step in steps:
            seen.append(told(book))
            step()
        last = told(book)
        for before in seen[::-1]:
            self.assertNotEqual(told(book), before)
            self.assertIsNone(book.undo())
            self.assertEqual(told(book), before)
        self.refused(NoDeed, book.undo)
        for step in steps:
            step()
        self.assertEqual(told(book), last)

    def test_nothing_to_undo(self):
        book = Book(ATLAS)
        for _ in range(2):
            self.refused(NoDeed, book.undo)
        book.put("home", TILE, 3)
        book.undo()
        self.refused(NoDeed, book.undo)
        self.assertEqual(book.history("home"), ())

    def test_an_undone_deed_holds_no_day(self):
        book = Book(ATLAS)
        book.put("home", TILE, 3)
        book.put("work", TILE, 8)
        self.refused(NoDay, book.put, "a", TILE, 7)
        book.undo()
        book.put("a", TILE, 7)
        self.assertEqual(book.names(8), ("a", "home"))
        for _ in range(2):
            book.undo()
        book.put("b", TILE, 0)
        self.assertEqual(book.names(0), ("b",))

    def test_days_do_not_fall(self):
        book = Book(ATLAS)
        book.put("home", TILE, 5)
        for day in (0, 4):
            self.refused(NoDay, book.put, "home", TILE, day)
            self.refused(NoDay, book.put, "work", TILE, day)
            self.refused(NoDay, book.drop, "home", day)
        book.put("work", TILE, 5)
        book.drop("home", 9)
        self.refused(NoDay, book.put, "home", TILE, 8)
        book.put("home", TILE, BIG)
        self.refused(NoDay, book.drop, "home", BIG - 1)

    def test_a_deed_of_another_name_holds_the_day_too(self):
        book = Book(ATLAS)
        book.put("home", TILE, 2)
        book.put("work", TILE, 6)
        self.refused(NoDay, book.drop, "home", 5)
        self.refused(NoDay, book.put, "home", OAK, 5)

    def test_questions_of_any_day(self):
        book = Book(ATLAS)
        book.put("home", TILE, 5)
        self.assertIsNone(book.where("home", 0))
        self.assertEqual(book.names(0), ())
        self.assertEqual(book.known(TILE, 0), ())
        self.assertEqual(book.known(TILE, 5), ("home",))

    def test_two_books_know_nothing_of_one_another(self):
        one, other = Book(ATLAS), Book(ATLAS)
        one.put("home", TILE, 5)
        self.assertEqual(other.names(5), ())
        other.put("work", TILE, 1)
        self.assertEqual(one.names(5), ("home",))
        one.undo()
        self.assertEqual(other.names(5), ("work",))


class Refused(Refusals):
    """Each refusal, and that the book is as it was behind it."""

    def setUp(self):
        self.book = Book(ATLAS)
        self.book.put("home", OAK, 3)
        self.book.put("work", TILE, 4)
        self.book.drop("work", 5)
        self.before = told(self.book)

    def refused(self, refusal, ask, *handed, **by_name):
        super().refused(refusal, ask, *handed, **by_name)
        self.assertEqual(told(self.book), self.before)

    def test_no_atlas(self):
        for thing in [None, ATLAS[:3], list(ATLAS), (), BARE[1], *ANYTHING, *OUTLANDISH]:
            super().refused(NoAtlas, Book, thing)

    def test_no_name_ahead_of_all(self):
        for name in NO_WORDS:
            for day in (5, 0, None):
                for form in (TILE, None):
                    self.refused(NoName, self.book.put, name, form, day)
                self.refused(NoName, self.book.drop, name, day)
                self.refused(NoName, self.book.where, name, day)
            self.refused(NoName, self.book.history, name)

    def test_then_no_day(self):
        for day in (*NO_DAYS, 4, 0):
            for form in (TILE, None, BAD[0]):
                self.refused(NoDay, self.book.put, "home", form, day)
            for name in ("home", "work", "nobody"):
                self.refused(NoDay, self.book.drop, name, day)
        for day in NO_DAYS:
            self.refused(NoDay, self.book.where, "home", day)
            self.refused(NoDay, self.book.names, day)
            self.refused(NoDay, self.book.known, TILE, day)
            self.refused(NoDay, self.book.known, None, day)

    def test_then_no_form(self):
        for thing in [*BAD, None, *ANYTHING, *OUTLANDISH]:
            with self.assertRaises(NoForm):
                self.book.put("home", thing, 5)
            with self.assertRaises(NoForm):
                self.book.known(thing, 5)
        self.assertEqual(told(self.book), self.before)

    def test_no_form_on_that_day(self):
        self.refused(NoForm, self.book.put, "home", ELM, 9)
        self.refused(NoForm, self.book.put, "home", ("region", "north"), 7)
        self.refused(NoForm, self.book.put, "home", ("region", "west"), 8)
        self.refused(NoForm, self.book.known, ELM, 4)
        self.refused(NoForm, self.book.known, ("region", "east"), 3)
        self.book.put("home", ("region", "north"), 8)
        self.assertEqual(self.book.where("home", 8), ("region", "north"))

    def test_no_name_of_what_means_nothing_then(self):
        for name, day in (("work", 5), ("work", 9), ("nobody", 5), ("a", BIG)):
            self.refused(NoName, self.book.drop, name, day)
        self.book.drop("home", 5)
        self.before = told(self.book)
        self.refused(NoName, self.book.drop, "home", 5)

    def test_by_place_and_by_name(self):
        self.refused(NoName, self.book.put, name=None, form=None, day=None)
        self.refused(NoDay, self.book.put, day=None, form=None, name="a")
        self.refused(NoForm, self.book.put, "a", day=7, form=None)
        self.refused(NoName, self.book.drop, day=7, name="work")
        self.refused(NoDay, self.book.known, form=None, day=None)


class Told(Refusals):
    def test_a_form_that_is_none_any_more(self):
        book = Book(ATLAS)
        book.put("home", ELM, 5)
        book.put("work", ("region", "east"), 5)
        for day in (8, 9, 20):
            self.assertEqual(book.where("home", day), ELM)
            self.assertEqual(book.where("work", day), ("region", "east"))
            self.assertEqual(book.names(day), ("home", "work"))
        self.assertEqual(book.known(("tile", ""), 7), ("home", "work"))
        self.assertEqual(book.known(("tile", ""), 8), ("home",))
        self.assertEqual(book.known(("tile", ""), 9), ())
        # It may be dropped all the same.
        book.drop("home", 20)
        self.assertIsNone(book.where("home", 20))

    def test_names_rising(self):
        book = Book(ATLAS)
        for name in ("work", "a", "home", "zoo", "b"):
            book.put(name, TILE, 3)
        self.assertEqual(book.names(3), ("a", "b", "home", "work", "zoo"))
        self.assertEqual(book.names(2), ())
        book.drop("home", 4)
        self.assertEqual(book.names(3), ("a", "b", "home", "work", "zoo"))
        self.assertEqual(book.names(4), ("a", "b", "work", "zoo"))

    def test_known_by_one_and_open(self):
        book = Book(ATLAS)
        book.put("zoo", spot(0, 5), 5)
        book.put("point", at(5, 0), 5)
        book.put("tile", ("tile", "0001"), 5)
        book.put("other", ("tile", "0000"), 5)
        book.put("oak", OAK, 5)
        book.put("east", ("region", "east"), 5)
        book.put("away", at(50, 50), 5)
        self.assertEqual(book.known(at(5, 0), 5), ("east", "oak", "point", "tile", "zoo"))
        self.assertEqual(book.known(at(1, -1, "near"), 5), ())
        self.assertEqual(book.known(("tile", "00"), 5), ("east", "oak", "other", "point", "tile", "zoo"))
        self.assertEqual(book.known(at(50, 50), 5), ("away",))
        self.assertEqual(book.known(("region", "land"), 5), ("away", "oak"))
        self.assertEqual(book.known(at(5, 0), 4), ())

    def test_tuples(self):
        book = Book(ATLAS)
        book.put("home", TILE, 3)
        for answer in (book.names(3), book.known(TILE, 3), book.history("home"), book.history("a")):
            self.assertIs(type(answer), tuple)

    def test_asked_again(self):
        book = Book(ATLAS)
        book.put("home", OAK, 3)
        book.put("a", TILE, 4)
        self.assertEqual(told(book), told(book))

    def test_by_chance(self):
        chance = random.Random(110)
        for _ in range(25):
            atlas = some_atlas(chance)
            book, deeds, day = Book(atlas), [], 0
            for _ in range(25):
                day = deeds[-1][0] if deeds else 0
                day += chance.choice((0, 0, 1))
                name = chance.choice("abc")
                pick = chance.random()
                means = [form for since, other, form in deeds if other == name][-1:] or [None]
                if pick < 0.25 and deeds:
                    book.undo()
                    deeds.pop()
                elif pick < 0.45:
                    if means[0] is None:
                        self.refused(NoName, book.drop, name, day)
                    else:
                        book.drop(name, day)
                        deeds.append((day, name, None))
                else:
                    form = some_form(chance, atlas, day)
                    book.put(name, form, day)
                    deeds.append((day, name, form))
            self.same(atlas, book, deeds, chance)

    def same(self, atlas, book, deeds, chance):
        """The book tells what the deeds, one by one, tell."""
        for day in range(0, 16, 3):
            forms = {}
            for name in "abc":
                past = [form for since, other, form in deeds if other == name and since <= day]
                forms[name] = past[-1] if past else None
                self.assertEqual(book.where(name, day), forms[name])
            self.assertEqual(book.names(day), tuple(name for name in "abc" if forms[name]))
            form = some_form(chance, atlas, day)
            known = [name for name in "abc" if forms[name] and is_form(atlas, day, forms[name])
                     and held_by_the_words(atlas, day, forms[name], form) != "two"]
            self.assertEqual(book.known(form, day), tuple(known))
        for name in "abc":
            days = sorted({since for since, other, _ in deeds if other == name})
            last = [[form for since, other, form in deeds if (since, other) == (day, name)][-1] for day in days]
            self.assertEqual(book.history(name), tuple(zip(days, last)))


class Atlas(Refusals):
    def test_what_is_handed_in_is_the_callers(self):
        # A book keeps tuples alone, so nothing that is changed later can hang on it.
        parts = [*ATLAS]
        book = Book(tuple(parts))
        parts.clear()
        book.put("home", OAK, 3)
        self.assertEqual(book.where("home", 3), OAK)

    def test_numbers_of_thirty_figures(self):
        book = Book(BARE)
        form = ("point", "ground", (BIG, 1), (1, BIG))
        book.put("home", form, BIG)
        self.assertEqual(book.where("home", BIG), form)
        self.assertEqual(book.known(form, BIG), ("home",))
        self.assertEqual(book.history("home"), ((BIG, form),))

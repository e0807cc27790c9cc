"""texts: [120]."""

import random
import sys
from fractions import Fraction

from onewhere.errors import NoForm, NoPoint, NoText
from onewhere.texts import form_text, fraction_text, read_form, read_fraction
from tests.forms import some_atlas, some_form
from tests.things import ANYTHING, BIG, BIG_ODD, OUTLANDISH, Prickly, Refusals, fr, pt

WRITTEN = (
    ((0, 1), "0"), ((3, 1), "3"), ((-3, 1), "-3"), ((10, 1), "10"), ((-7, 2), "-7/2"), ((7, 2), "7/2"),
    ((1, 10), "1/10"), ((-1, 100), "-1/100"), ((BIG, 1), "9" * 30), ((-BIG, 1), "-" + "9" * 30),
    ((BIG, BIG_ODD), "9" * 30 + "/" + "9" * 29 + "7"), ((1, BIG), "1/" + "9" * 30), ((100, 3), "100/3"),
)
FORMS = (
    (("point", "ground", (3, 1), (-7, 2)), "point ground 3 -7/2"),
    (("point", "a", (0, 1), (0, 1)), "point a 0 0"),
    (("point", "abcdefgh", (BIG, 1), (-1, BIG)), f"point abcdefgh {BIG} -1/{BIG}"),
    (("tile", ""), "tile -"), (("tile", "0"), "tile 0"), (("tile", "012301230"), "tile 012301230"),
    (("spot", 0, (0, 1)), "spot 0 0"), (("spot", 13, (7, 2)), "spot 13 7/2"), (("spot", BIG, (-1, 2)), f"spot {BIG} -1/2"),
    (("address", "oak", 0), "address oak 0"), (("address", "oak", 999), "address oak 999"),
    (("address", "oak", BIG), f"address oak {BIG}"),
    (("region", "land"), "region land"), (("region", "x"), "region x"),
)
NO_FRACTION_TEXTS = (
    "", " ", "-", "+3", "+0", "-0", "03", "00", "-03", "007", "3/1", "4/2", "0/1", "0/2", "-0/1", "6/4", "-4/2", "3/0",
    "0/0", "1/-2", "-1/-2", "1/+2", "1/02", "01/2", "/2", "1/", "/", "1//2", "1/2/3", "1/2/", " 3", "3 ", "1 /2",
    "1/ 2", "1 / 2", "- 3", "--3", "3-", "3.0", "3.", ".5", "1e3", "0x3", "3_0", "1_0/3", "a", "3a", "a3", "3\n", "\n3",
    "\t3", "3\t", "1/2\n", "3,0", "\u0663", "\u00b2", "\u00bd", "1/\u0663", "\uff13", "None", "True", "(3, 1)", "3/1/1",
    "2/4", "10/5", "9/3",
)
NO_FORM_TEXTS = (
    "", " ", "point", "tile", "spot", "address", "region", "point ", "tile ", "region ",
    "point ground 3", "point ground", "point ground 3 4 5", "point 3 4", "point ground 3  4", "point  ground 3 4",
    " point ground 3 4", "point ground 3 4 ", "point\tground 3 4", "point ground 3\t4", "point ground 3 4\n",
    "point ground 3 4/2", "point ground 3/1 4", "point ground -0 4", "point ground +3 4", "point ground 03 4",
    "point ground 3 04", "point Ground 3 4", "point ninechars 3 4", "point 1 3 4", "point - 3 4", "point ground (3,1) 4",
    "Point ground 3 4", "points ground 3 4", "POINT ground 3 4", "point ground 3, 4", "point ground 3 x",
    "tile 4", "tile 0124", "tile 0000000000", "tile --", "tile -0", "tile 0-", "tile  0", "tile 0 1", "tile 0 ", "tile a",
    "tile \u0660", "tile - -", "tile  ", "tile 01\n",
    "spot 0", "spot 0 1 2", "spot -1 0", "spot -0 0", "spot 00 0", "spot 01 0", "spot 1/2 0", "spot a 0", "spot 0 a",
    "spot 0 2/4", "spot 0  1", "spot +1 0", "spot 0 -0",
    "address oak", "address oak 1 2", "address oak -1", "address oak 01", "address oak 1/2", "address Oak 1",
    "address 1 oak", "address oak one", "address  1", "address ninechars 1", "address oak 1 ", "address oak  1",
    "region", "region Land", "region ninechars", "region a b", "region -", "region 1", "region land ", "region  land",
    "land", "ground", "form land", "region land;", "tile 0 ; tile 1", "x", "none", "-", "3", "0",
)


class FractionTexts(Refusals):
    def test_written_and_read(self):
        for fraction, text in WRITTEN:
            self.assertEqual(fraction_text(fraction), text)
            self.assertEqual(read_fraction(text), fraction)
            self.assertIs(type(fraction_text(fraction)), str)
            self.assertEqual([type(part) for part in read_fraction(text)], [int, int])

    def test_by_chance(self):
        chance = random.Random(120)
        for _ in range(300):
            worth = Fraction(chance.randint(-30, 30), chance.randint(1, 12))
            self.assertEqual(fraction_text(fr(worth)), str(worth))
            self.assertEqual(read_fraction(str(worth)), fr(worth))

    def test_what_is_no_fraction(self):
        wrong = [(2, 2), (4, 2), (0, 2), (1, 0), (1, -1), (True, 1), (1, True), [1, 1], (1,), (1, 1, 1), 1, "1", None, (),
                 (1.0, 1), (1, 1.0), pt(1, 1), ("1", "1"), (Prickly(), 1)]
        for thing in [*wrong, *ANYTHING, *OUTLANDISH]:
            self.refused(NoPoint, fraction_text, thing)

    def test_what_is_not_just_so_written(self):
        for text in NO_FRACTION_TEXTS:
            self.refused(NoText, read_fraction, text)

    def test_no_texts(self):
        for thing in [3, (3, 1), None, True, b"3", ["3"], ("3",), {}, 3.0, *ANYTHING, *OUTLANDISH]:
            self.refused(NoText, read_fraction, thing)

    def test_what_was_told_may_have_more_figures_than_python_writes(self):
        many = sys.get_int_max_str_digits() + 700
        for top in (10 ** many + 7, -(10 ** many) - 1, 10 ** 64, 10 ** 64 - 1, 10 ** 128 + 5, -10 ** 64):
            text = fraction_text((top, 1))
            self.assertEqual(text.lstrip("-")[0], "1" if abs(top) != 10 ** 64 - 1 else "9")
            self.assertEqual(read_fraction(text), (top, 1))
            self.assertEqual(read_fraction(fraction_text((1, 2 + abs(top)))), (1, 2 + abs(top)))
        self.assertEqual(fraction_text((10 ** many + 7, 1)), "1" + "0" * (many - 1) + "7")
        self.assertEqual(fraction_text((-(10 ** 70), 3)), "-1" + "0" * 70 + "/3")


class FormTexts(Refusals):
    def test_written_and_read(self):
        for form, text in FORMS:
            self.assertEqual(form_text(form), text)
            self.assertEqual(read_form(text), form)
            self.assertIs(type(read_form(text)), tuple)

    def test_things_of_a_forms_shape_that_no_atlas_has(self):
        for form in (("point", "nowhere", (1, 2), (1, 3)), ("spot", 99, (-7, 2)), ("address", "x", 5000),
                     ("region", "nowhere")):
            self.assertEqual(read_form(form_text(form)), form)

    def test_by_chance(self):
        chance = random.Random(121)
        for _ in range(60):
            atlas = some_atlas(chance, below=2)
            for _ in range(8):
                day = chance.randrange(12)
                form = some_form(chance, atlas, day)
                self.assertEqual(read_form(form_text(form)), form)
                self.assertRegex(form_text(form), r"\A[a-z]+( (-|-?[0-9]+(/[0-9]+)?|[a-z]+))+\Z")

    def test_what_has_no_forms_shape(self):
        wrong = [
            ("point", "ground", (1, 1)), ("point", "ground", (1, 1), (1, 1), (1, 1)), ("point", "ground", (2, 2), (1, 1)),
            ("point", "ground", 1, 1), ("point", "Ground", (1, 1), (1, 1)), ("point", "", (1, 1), (1, 1)),
            ("point", 1, (1, 1), (1, 1)), ("point", "ground", (True, 1), (1, 1)), ("point", "ground", pt(1, 1)),
            ["point", "ground", (1, 1), (1, 1)], ("point", (1, 1), (1, 1)),
            ("tile", "4"), ("tile", "0" * 10), ("tile", "-"), ("tile", 0), ("tile",), ("tile", "0", "1"), ["tile", "0"],
            ("spot", -1, (1, 1)), ("spot", True, (1, 1)), ("spot", 0, 1), ("spot", 0, (2, 2)), ("spot", "0", (1, 1)),
            ("spot", 0), ("spot", 0, (1, 1), (1, 1)), ["spot", 0, (1, 1)], ("spot", (0, 1), (1, 1)), ("spot", False, (0, 1)),
            ("address", "oak", -1), ("address", "oak", True), ("address", "Oak", 1), ("address", "oak", "1"),
            ("address", "oak"), ("address", "oak", 1, 1), ["address", "oak", 1], ("address", "oak", (1, 1)),
            ("region", "Land"), ("region", ""), ("region",), ("region", "a", "b"), ["region", "a"], ("region", 1),
            ("form", "a"), ("", "a"), (None, "a"), "region land", ("tiles", ("0",)), ("stretch", 0, (0, 1), (1, 1)),
            (Prickly(), "a"), ("region", Prickly()), ("spot", Prickly(), (0, 1)), ("spot", 0, Prickly()),
            ("point", Prickly(), (0, 1), (0, 1)), ("point", "a", (0, 1), Prickly()), ("tile", Prickly()), (),
        ]
        for thing in [*wrong, *ANYTHING, *OUTLANDISH]:
            self.refused(NoForm, form_text, thing)

    def test_what_is_not_just_so_written(self):
        for text in NO_FORM_TEXTS:
            self.refused(NoText, read_form, text)

    def test_each_text_with_a_sign_more_or_fewer(self):
        for form, text in FORMS:
            for sign in " \t\n-+/0;.,A":
                for at in (0, len(text)):
                    other = text[:at] + sign + text[at:]
                    try:
                        told = read_form(other)
                    except NoText:
                        continue
                    self.assertEqual(form_text(told), other)
                    self.assertEqual(sign, "0")
            self.refused(NoText, read_form, text.upper())
            self.refused(NoText, read_form, text.replace(" ", "  ", 1))

    def test_no_texts(self):
        for thing in [3, None, True, b"region land", ["region land"], ("region", "land"), *ANYTHING, *OUTLANDISH]:
            self.refused(NoText, read_form, thing)

    def test_many_words(self):
        for text in ("tile " * 400, "0 " * 1000, "point " + "a" * 1900, "region " + " " * 1900, "spot 0 " + "1" * 1900 + "x"):
            self.refused(NoText, read_form, text)

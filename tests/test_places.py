"""places: [100], [101] and [102]."""

import random

from onewhere.errors import NoAtlas, NoChain, NoDay, NoForm, NoKind, NotThere
from onewhere.places import against, anchor, both_mean, chain, is_atlas, is_form, lead, meant
from onewhere.points import boxwise
from tests.atlas import ATLAS, BAD, BARE, FRAMES, GOOD, LITTLE, MOVES, ROWS, WEB, at, spot
from tests.forms import (
    anchor_by_the_words, boxwise_apart, ground_has, ground_of_form, held_by_the_words, led_by_the_words, some_atlas,
    some_form, some_kind,
)
from tests.things import ANYTHING, BIG, OUTLANDISH, Prickly, Refusals, fr, pt, pts, val, xy

# Each function with what is handed in behind atlas, day and form.
BEHIND_FORM = (
    (meant, ()), (anchor, ()), (lead, ("spot",)), (against, (("tile", ""),)), (both_mean, (("tile", ""),)),
    (chain, (("spot",),)),
)


class Atlases(Refusals):
    def no(self, thing):
        self.assertIs(is_atlas(thing), False, thing)
        self.refused(NoAtlas, is_form, thing, 5, ("tile", ""))
        for ask, behind in BEHIND_FORM:
            self.refused(NoAtlas, ask, thing, 5, ("tile", ""), *behind)

    def test_atlases(self):
        for thing in (ATLAS, BARE, (FRAMES, BARE[1], (), MOVES), ((), WEB, ROWS, ()), ((), WEB, (), MOVES)):
            self.assertIs(is_atlas(thing), True)

    def test_a_part_of_another_kind(self):
        for at in range(4):
            for wrong in (None, 0, "", [], {}, list(ATLAS[at]), ATLAS[at - 1], ((),), (None,), True, Prickly()):
                self.no(ATLAS[:at] + (wrong,) + ATLAS[at + 1:])

    def test_parts_that_are_none_by_one_thing(self):
        self.no((FRAMES[::-1], WEB, ROWS, MOVES))
        self.no((FRAMES[:1], WEB, ROWS, MOVES))
        self.no((FRAMES, (WEB[0], ((0, 0, (), 2),)), (), MOVES))
        self.no((FRAMES, WEB, ROWS[::-1], MOVES))
        self.no((FRAMES, WEB, ROWS, MOVES[::-1]))
        self.no((FRAMES, WEB, ROWS, ((True, ("0",), "a"),)))

    def test_rows_of_another_web(self):
        self.no((FRAMES, (WEB[0], WEB[1][:2]), ROWS, MOVES))
        self.no((FRAMES, BARE[1], ROWS, MOVES))
        self.assertIs(is_atlas((FRAMES, (WEB[0], WEB[1][:3]), ROWS, MOVES)), True)

    def test_more_and_fewer_parts(self):
        for wrong in (ATLAS[:3], ATLAS[1:], ATLAS + ((),), ATLAS + (None,), list(ATLAS), ATLAS[::-1], (ATLAS,), ()):
            self.no(wrong)
        self.no(dict(enumerate(ATLAS)))
        self.no(iter(ATLAS))

    def test_of_anything(self):
        for thing in [*ANYTHING, *OUTLANDISH]:
            self.no(thing)


class Days(Refusals):
    def test_behind_the_atlas_ahead_of_the_form(self):
        for day in (-1, -BIG, True, False, None, "5", (5,), [5], 5.0, {}, Prickly()):
            for form in (("tile", ""), None, BAD[0]):
                self.refused(NoDay, is_form, ATLAS, day, form)
                self.refused(NoAtlas, is_form, None, day, form)
                for ask, behind in BEHIND_FORM:
                    self.refused(NoDay, ask, ATLAS, day, form, *behind)
                    self.refused(NoDay, ask, ATLAS, day, form, *[None] * len(behind))
                    self.refused(NoAtlas, ask, None, day, form, *behind)


class Forms(Refusals):
    def test_each_kind(self):
        for form in GOOD:
            self.assertIs(is_form(ATLAS, 5, form), True, form)

    def test_what_is_none(self):
        for thing in [*BAD, *ANYTHING, *OUTLANDISH]:
            self.assertIs(is_form(ATLAS, 5, thing), False, thing)
            self.assertIs(is_form(BARE, 5, thing), False)
            for ask, behind in BEHIND_FORM:
                self.refused(NoForm, ask, ATLAS, 5, thing, *behind)
                self.refused(NoForm, ask, ATLAS, 5, thing, *[None] * len(behind))

    def test_the_other_one_too(self):
        for thing in [*BAD, *ANYTHING, *OUTLANDISH]:
            for ask in (against, both_mean):
                self.refused(NoForm, ask, ATLAS, 5, ("tile", ""), thing)

    def test_an_address_that_is_not_there_on_the_day(self):
        for day in (5, 8):
            self.assertIs(is_form(ATLAS, day, ("address", "elm", 1)), True)
        for day in (0, 4, 9, BIG):
            self.assertIs(is_form(ATLAS, day, ("address", "elm", 1)), False)
            self.refused(NoForm, meant, ATLAS, day, ("address", "elm", 1))

    def test_a_region_without_ground_on_the_day(self):
        told = [[region for region in ("east", "land", "north", "west") if is_form(ATLAS, day, ("region", region))]
                for day in (0, 4, 6, 8)]
        self.assertEqual(told, [["land", "west"], ["east", "land", "west"], ["east", "land", "west"], ["north"]])
        self.refused(NoForm, anchor, ATLAS, 8, ("region", "land"))

    def test_other_forms_hang_on_no_day(self):
        for form in GOOD:
            if form[0] in ("point", "tile", "spot"):
                for day in (0, 8, BIG):
                    self.assertIs(is_form(ATLAS, day, form), True)

    def test_of_a_bare_atlas(self):
        told = [form for form in GOOD if is_form(BARE, 5, form)]
        self.assertEqual(told, [("point", "ground", fr(1), fr("1/2")), *GOOD[3:6], ("region", "land")])


class Meant(Refusals):
    def test_points_on_the_ground(self):
        self.assertEqual(meant(ATLAS, 5, ("point", "ground", fr(1), fr("1/2"))), ("point", (1, 1), (1, 2)))
        self.assertEqual(meant(ATLAS, 5, ("point", "near", fr("1/4"), fr(5))), ("point", (7, 2), (10, 1)))
        self.assertEqual(meant(ATLAS, 5, ("point", "far", fr(2), fr(3))), ("point", (-1, 1), (4, 1)))

    def test_tiles(self):
        for code in ("", "0", "012301230", "333333333"):
            self.assertEqual(meant(ATLAS, 5, ("tile", code)), ("tiles", (code,)))

    def test_stretches(self):
        self.assertEqual(meant(ATLAS, 5, ("spot", 2, fr("7/2"))), ("stretch", 2, (7, 2), (7, 2)))
        self.assertEqual(meant(ATLAS, 5, ("address", "oak", 2)), ("stretch", 0, (4, 1), (8, 1)))
        self.assertEqual(meant(ATLAS, 5, ("address", "oak", 4)), ("stretch", 1, (0, 1), (12, 1)))
        self.assertEqual(meant(ATLAS, 5, ("address", "elm", 4)), ("stretch", 2, (18, 1), (24, 1)))

    def test_regions_merged(self):
        self.assertEqual(meant(ATLAS, 0, ("region", "west")), ("tiles", ("0000", "0001")))
        self.assertEqual(meant(ATLAS, 5, ("region", "east")), ("tiles", ("0001", "03")))
        self.assertEqual(meant(ATLAS, 6, ("region", "east")), ("tiles", ("03",)))
        self.assertEqual(meant(ATLAS, 8, ("region", "north")), ("tiles", ("",)))
        quarters = ((0, ("00", "01", "02"), "a"), (1, ("03",), "a"))
        self.assertEqual(meant(BARE[:3] + (quarters,), 1, ("region", "a")), ("tiles", ("0",)))

    def test_anchors(self):
        for form, x, y in (
            (("point", "ground", fr(1), fr("1/2")), 1, "1/2"), (("point", "near", fr("1/4"), fr(5)), "7/2", 10),
            (("point", "near", fr(-BIG), fr(0)), 3 - 2 * BIG, 0),
            (("tile", ""), 32, 32), (("tile", "0"), 16, 16), (("tile", "31"), 56, 40),
            (("tile", "000000000"), "1/16", "1/16"),
            (("spot", 0, fr("7/2")), "7/2", 0), (("spot", 2, fr(18)), 0, 6), (("spot", 2, fr(24)), 0, 0),
            (("address", "oak", 2), 6, 0), (("address", "oak", 4), 12, 6), (("address", "elm", 3), 0, 9),
            (("address", "fir", 5), 9, 0),
            (("region", "west"), 2, 2), (("region", "east"), 6, 2),
        ):
            self.assertEqual(anchor(ATLAS, 5, form), pt(x, y), form)

    def test_the_least_codes_tile_and_not_the_greatest(self):
        moves = ((0, ("003", "01", "3"), "a"),)
        self.assertEqual(anchor(BARE[:3] + (moves,), 0, ("region", "a")), pt(12, 12))
        self.assertEqual(anchor(ATLAS, 6, ("region", "east")), pt(24, 24))

    def test_the_anchor_by_the_middle_along_the_road(self):
        # Elm 2 goes from 6 to 12 along road 2, elm 3 from 12 to 18, over no corner; the whole road over one.
        whole = ATLAS[:2] + ((("elm", 2, 1, 1, 1, 0, 9), ("oak", 2, 1, 2, 1, 0, 9)),) + ATLAS[3:]
        self.assertEqual(anchor(whole, 0, ("address", "elm", 1)), pt(0, 12))
        self.assertEqual(anchor(whole, 0, ("address", "oak", 1)), pt(6, 12))

    def test_by_chance(self):
        chance = random.Random(100)
        for _ in range(60):
            atlas = some_atlas(chance, below=chance.choice((1, 2)))
            self.assertIs(is_atlas(atlas), True)
            for _ in range(6):
                day = chance.randrange(12)
                form = some_form(chance, atlas, day)
                self.assertIs(is_form(atlas, day, form), True)
                self.assertEqual(xy(anchor(atlas, day, form)), anchor_by_the_words(atlas, day, form))


class Lead(Refusals):
    def leads(self, form, kind, told, off, day=5):
        self.assertEqual(lead(ATLAS, day, form, kind), (told, fr(off)))

    def test_a_point_to_each_kind(self):
        point = ("point", "near", fr(2), fr(1))
        self.leads(point, ("point", "ground"), ("point", "ground", fr(7), fr(2)), 0)
        self.leads(point, ("point", "far"), ("point", "far", fr(1), fr(-1)), 0)
        self.leads(point, ("point", "near"), point, 0)
        self.leads(point, ("tile", 0), ("tile", ""), 30)
        self.leads(point, ("tile", 5), ("tile", "00013"), 1)
        self.leads(point, "region", ("region", "east"), 1)
        # Nearest is road 4, on its way from (8, 0) to (4, 4).
        self.leads(point, "spot", ("spot", 4, fr(11)), "1/2")
        self.refused(NotThere, lead, ATLAS, 5, point, "address")
        self.leads(("point", "ground", fr(7), fr(-2)), "address", ("address", "fir", 5), 2)

    def test_a_tile_to_each_kind(self):
        tile = ("tile", "00001")
        self.leads(tile, ("point", "near"), ("point", "near", fr(0), fr("1/2")), 0)
        self.leads(tile, ("tile", 2), ("tile", "00"), 7)
        self.leads(tile, ("tile", 9), ("tile", "000013000"), "1/16")
        self.leads(tile, "spot", ("spot", 0, fr(3)), 1)
        self.leads(tile, "address", ("address", "fir", 3), 1)
        self.leads(tile, "region", ("region", "west"), 1)

    def test_a_spot_to_each_kind(self):
        spot = ("spot", 2, fr(18))
        self.leads(spot, ("point", "ground"), ("point", "ground", fr(0), fr(6)), 0)
        self.leads(spot, ("tile", 4), ("tile", "0002"), 2)
        self.leads(spot, "spot", spot, 0)
        self.leads(spot, "address", ("address", "elm", 4), 3)
        self.leads(spot, "region", ("region", "land"), 2)
        # The same point lies on a road with a lesser number.
        self.leads(("spot", 2, fr(24)), "spot", ("spot", 0, fr(0)), 0)

    def test_an_address_to_each_kind(self):
        address = ("address", "oak", 2)
        self.leads(address, ("point", "near"), ("point", "near", fr("3/2"), fr(0)), 0)
        self.leads(address, ("tile", 4), ("tile", "0001"), 2)
        self.leads(address, "spot", ("spot", 0, fr(6)), 0)
        # Fir 5 begins there.
        self.leads(address, "address", ("address", "fir", 5), 3)
        self.leads(("address", "oak", 4), "address", ("address", "oak", 4), 0)
        self.leads(address, "region", ("region", "east"), 2)

    def test_a_region_to_each_kind(self):
        region = ("region", "east")
        self.leads(region, ("point", "ground"), ("point", "ground", fr(6), fr(2)), 0)
        self.leads(region, ("tile", 3), ("tile", "000"), 2)
        self.leads(region, "spot", ("spot", 4, fr(12)), 0)
        self.leads(region, "region", region, 0)
        self.refused(NotThere, lead, ATLAS, 5, region, "address")
        self.leads(("region", "west"), "address", ("address", "fir", 3), 2)

    def test_on_a_day(self):
        self.leads(("spot", 0, fr(5)), "region", ("region", "west"), 3, day=0)
        self.leads(("spot", 0, fr(5)), "region", ("region", "east"), 2, day=4)
        self.leads(("spot", 0, fr(5)), "region", ("region", "west"), 3, day=6)
        self.leads(("spot", 0, fr(5)), "region", ("region", "north"), 32, day=8)
        self.leads(("spot", 2, fr(1)), "address", ("address", "elm", 1), 2, day=5)
        self.refused(NotThere, lead, ATLAS, 4, ("spot", 2, fr(1)), "address")

    def test_depths(self):
        for depth in range(10):
            form, _ = lead(ATLAS, 5, ("point", "ground", fr(0), fr(0)), ("tile", depth))
            self.assertEqual(form, ("tile", "0" * depth))
        for depth in (10, 11, -1, BIG, True, False, None, "1", (1,), 1.0, Prickly()):
            self.refused(NoKind, lead, ATLAS, 5, ("tile", ""), ("tile", depth))

    def test_an_anchor_beyond_the_land(self):
        for frame, x, y in (("ground", -1, 1), ("ground", 64, 0), ("ground", 0, 64), ("near", -2, 0), ("near", 31, 0),
                            ("ground", 1, -LITTLE), ("far", 100, 0)):
            form = ("point", frame, fr(x), fr(y))
            for kind in (("tile", 0), ("tile", 9), "region"):
                self.refused(NotThere, lead, ATLAS, 5, form, kind)
            # Not so to what needs no land.
            self.assertEqual(lead(ATLAS, 5, form, "spot")[0][0], "spot")
            self.assertEqual(lead(ATLAS, 5, form, ("point", "ground"))[1], (0, 1))
        self.leads(("point", "near", fr("-3/2"), fr(0)), ("tile", 4), ("tile", "0000"), 2)

    def test_no_roads(self):
        for form in (("tile", ""), ("region", "land"), ("point", "ground", fr(1), fr(1))):
            for kind in ("spot", "address"):
                self.refused(NotThere, lead, BARE, 5, form, kind)

    def test_no_address_at_the_nearest_spot(self):
        self.refused(NotThere, lead, ATLAS, 5, ("spot", 3, fr(14)), "address")
        self.refused(NotThere, lead, ATLAS, 50, ("spot", 0, fr(5)), "address")
        # Not even where another road that has one is as near.
        self.refused(NotThere, lead, ((), WEB, (("elm", 2, 1, 1, 1, 0, 9),), ()), 5, ("spot", 2, fr(24)), "address")

    def test_the_least_of_several_addresses(self):
        self.leads(("spot", 0, fr(5)), "address", ("address", "fir", 3), 2)
        rows = (("oak", 0, 1, 5, 2, 0, 9), ("oak", 0, 4, 4, 1, 0, 9))
        self.assertEqual(lead(((), WEB, rows, ()), 0, ("spot", 0, fr(12)), "address")[0], ("address", "oak", 4))
        self.assertEqual(lead(((), WEB, rows, ()), 0, ("spot", 0, fr(0)), "address")[0], ("address", "oak", 1))

    def test_off_is_boxwise_from_anchor_to_anchor(self):
        # From (1, 1/2) to the middle of the land: 31 to the right, 63/2 upwards.
        self.leads(("point", "ground", fr(1), fr("1/2")), ("tile", 0), ("tile", ""), "63/2")
        self.leads(("tile", ""), ("tile", 1), ("tile", "3"), 16)
        self.leads(("point", "ground", fr(40), fr(15)), "spot", ("spot", 3, fr(28)), 3)

    def test_kinds_that_are_none(self):
        wrong = [
            "point", "tile", "Spot", "spots", "", "ground", "spot ", ("spot",), ("region",), ("address",), ("point",),
            ("tile",), ("point", "other"), ("point", "Near"), ("point", ""), ("point", None), ("point", "near", 1),
            ("tile", 3, 3), ("tile", "3"), ["tile", 3], ["point", "near"], ("near",), ("tile", 10), ("tile", -1),
            ("tile", True), ("spot", 1), ("region", "west"), ("Tile", 3), (3, "tile"), (), b"spot", ("", 3),
            ("point", ["near"]), ("point", "ground", "ground"), (Prickly(), 3), ("tile", Prickly()),
            ("point", Prickly()),
        ]
        for thing in [*wrong, *ANYTHING, *OUTLANDISH]:
            for form in (("tile", ""), ("point", "ground", fr(-1), fr(0))):
                self.refused(NoKind, lead, ATLAS, 5, form, thing)
        # A frame that another atlas has.
        self.refused(NoKind, lead, BARE, 5, ("tile", ""), ("point", "near"))
        self.assertEqual(lead(BARE, 5, ("tile", ""), ("point", "ground"))[0], ("point", "ground", fr(32), fr(32)))

    def test_by_chance(self):
        chance = random.Random(101)
        refusals = 0
        for _ in range(120):
            atlas = some_atlas(chance, below=chance.choice((1, 2)))
            for _ in range(6):
                day = chance.randrange(12)
                form, kind = some_form(chance, atlas, day), some_kind(chance, atlas)
                expected = led_by_the_words(atlas, day, form, kind)
                if expected is None:
                    refusals += 1
                    self.refused(NotThere, lead, atlas, day, form, kind)
                    continue
                told, off = lead(atlas, day, form, kind)
                self.assertEqual(told, expected)
                self.assertIs(is_form(atlas, day, told), True)
                ends = (anchor_by_the_words(atlas, day, thing) for thing in (form, told))
                self.assertEqual(val(off), boxwise_apart(*ends))
        self.assertTrue(50 < refusals < 350, refusals)


class Against(Refusals):
    def held(self, word, form, other, day=5, atlas=ATLAS):
        """The word, either way about, and a point of both where there is one."""
        for one, two in ((form, other), (other, form)):
            self.assertEqual(against(atlas, day, one, two), word, (one, two))
            point = both_mean(atlas, day, one, two)
            if word == "two":
                self.assertIsNone(point)
            else:
                for thing in (one, two):
                    self.assertTrue(ground_has(ground_of_form(atlas, day, thing), xy(point)), (one, two, point))
        self.assertEqual(held_by_the_words(atlas, day, form, other), word)

    def test_points(self):
        self.held("one", at(7, 2), at(7, 2))
        self.held("one", at(7, 2), at(2, 1, "near"))
        self.held("one", at(2, 1, "near"), at(1, -1, "far"))
        self.held("two", at(7, 2), at(7, 2, "near"))
        self.held("two", at(7, 2), at(7 + LITTLE, 2))
        self.held("one", at(-5, 90), at(-4, 45, "near"))

    def test_points_and_tiles(self):
        tile = ("tile", "0003")
        for x, y in ((4, 4), (4, 6), (6, 4), (8 - LITTLE, 8 - LITTLE), (5, 7)):
            self.held("open", at(x, y), tile)
        for x, y in ((8, 4), (8, 6), (4, 8), (6, 8), (8, 8), (4 - LITTLE, 4), (4, 4 - LITTLE)):
            self.held("two", at(x, y), tile)
        self.held("open", at(0, 0), ("tile", ""))
        self.held("two", at(64, 0), ("tile", ""))
        self.held("two", at(0, -LITTLE), ("tile", ""))

    def test_points_and_spots(self):
        self.held("one", at(12, 0), spot(0, 12))
        self.held("one", at(12, 0), spot(1, 0))
        self.held("one", at("3/2", 0, "near"), spot(0, 6))
        self.held("two", at(12, 0), spot(0, 12 - LITTLE))

    def test_points_and_stretches(self):
        # Oak 2 goes from (4, 0) to (8, 0), both too.
        for x in (4, 5, "13/2", 8):
            self.held("open", at(x, 0), ("address", "oak", 2))
        for x, y in ((4 - LITTLE, 0), (8 + LITTLE, 0), (5, LITTLE), (5, -1)):
            self.held("two", at(x, y), ("address", "oak", 2))

    def test_points_and_regions(self):
        self.held("open", at(5, 1), ("region", "east"))
        self.held("open", at(20, 20), ("region", "east"))
        self.held("two", at(5, 1), ("region", "west"))
        self.held("two", at(5, 1), ("region", "land"))
        self.held("two", at(-1, 1), ("region", "land"))
        self.held("open", at(5, 1), ("region", "west"), day=6)

    def test_spots(self):
        self.held("one", spot(0, 12), spot(1, 0))
        self.held("one", spot(2, 24), spot(0, 0))
        self.held("two", spot(0, 12), spot(0, 11))
        # Road 4 goes over road 0 at (8, 0), and over itself nowhere.
        self.held("one", spot(4, 8), spot(0, 8))
        self.held("two", spot(4, 8), spot(0, 9))
        self.held("one", spot(3, 5), spot(3, 5))

    def test_a_spot_at_a_tiles_corner_and_sides(self):
        self.held("open", spot(0, 4), ("tile", "0001"))
        self.held("two", spot(0, 4), ("tile", "0000"))
        self.held("two", spot(0, 8), ("tile", "0001"))
        self.held("open", spot(0, 8 - LITTLE), ("tile", "0001"))
        self.held("two", spot(1, 12), ("tile", "0030"))
        self.held("open", spot(1, 12), ("tile", "0033"))
        self.held("two", spot(2, 12), ("tile", "0020"))

    def test_spots_and_stretches(self):
        self.held("open", spot(0, 4), ("address", "oak", 1))
        self.held("open", spot(0, 4), ("address", "oak", 2))
        self.held("two", spot(0, 4), ("address", "oak", 3))
        self.held("open", spot(4, 8), ("address", "oak", 3))
        self.held("open", spot(1, 0), ("address", "oak", 3))

    def test_a_stretch_that_touches_a_tile_at_its_right_side_alone(self):
        # Oak 4 goes upwards along x 12.
        for code in ("0010", "0012", "0030"):
            self.held("two", ("address", "oak", 4), ("tile", code))
        for code in ("0011", "0013", "0031"):
            self.held("open", ("address", "oak", 4), ("tile", code))
        # Elm 4 goes downwards along x 0, elm 1 to the left along y 12.
        self.held("open", ("address", "elm", 4), ("tile", "0000"))
        self.held("two", ("address", "elm", 1), ("tile", "0030"))
        self.held("open", ("address", "elm", 1), ("tile", "0032"))

    def test_a_stretch_that_touches_a_tile_with_an_end(self):
        # Oak 1 ends at (4, 0), where the tile begins; oak 2 begins at (4, 0), where the other one ends.
        self.held("open", ("address", "oak", 1), ("tile", "0001"))
        self.held("two", ("address", "oak", 2), ("tile", "0000"))
        self.held("two", ("address", "oak", 3), ("tile", "0001"))

    def test_a_stretch_that_goes_through_a_tile(self):
        web = (pts((1, 0), (0, 1), (20, 21)), ((0, 2, (), 2), (1, 2, (), 2), (0, 1, (), 2)))
        rows = (("ash", 0, 1, 1, 1, 0, 9), ("elm", 1, 1, 1, 1, 0, 9), ("oak", 2, 1, 1, 1, 0, 9))
        atlas = ((), web, rows, ())
        self.held("open", ("address", "ash", 1), ("tile", "0030"), atlas=atlas)
        self.held("open", ("address", "elm", 1), ("tile", "0003"), atlas=atlas)
        self.held("open", ("address", "oak", 1), ("tile", "000000"), atlas=atlas)
        # It goes by the tile at its corner (1, 1), and through the tiles at their corners (1, 0) and (0, 1).
        self.held("two", ("address", "oak", 1), ("tile", "000003"), atlas=atlas)
        self.held("open", ("address", "oak", 1), ("tile", "000001"), atlas=atlas)
        self.held("open", ("address", "oak", 1), ("tile", "000002"), atlas=atlas)
        self.held("two", ("address", "elm", 1), ("tile", "000000"), atlas=atlas)

    def test_a_stretch_and_a_region(self):
        self.held("open", ("address", "oak", 1), ("region", "west"))
        self.held("open", ("address", "oak", 1), ("region", "east"))
        self.held("two", ("address", "oak", 3), ("region", "west"))
        self.held("two", ("address", "oak", 3), ("region", "east"))
        self.held("two", ("address", "oak", 3), ("region", "west"))
        self.held("open", ("address", "oak", 3), ("region", "land"))
        self.held("open", ("address", "oak", 2), ("region", "land"))

    def test_stretches_that_cross(self):
        web = (pts((0, 0), (8, 8), (0, 7), (9, 0), (20, 3)), ((0, 1, (), 2), (2, 3, (), 2), (2, 4, (), 1)))
        rows = (("ash", 0, 1, 1, 1, 0, 9), ("elm", 1, 1, 1, 1, 0, 9), ("oak", 2, 1, 2, 1, 0, 9))
        atlas = ((), web, rows, ())
        self.held("open", ("address", "ash", 1), ("address", "elm", 1), atlas=atlas)
        self.assertEqual(both_mean(atlas, 5, ("address", "ash", 1), ("address", "elm", 1)), pt("63/16", "63/16"))
        self.held("open", ("address", "ash", 1), ("address", "oak", 1), atlas=atlas)
        self.held("two", ("address", "ash", 1), ("address", "oak", 2), atlas=atlas)

    def test_stretches_that_touch_at_a_crossing(self):
        self.held("open", ("address", "oak", 3), ("address", "oak", 4))
        self.held("open", ("address", "oak", 4), ("address", "elm", 1))
        self.held("open", ("address", "elm", 4), ("address", "oak", 1))
        self.held("two", ("address", "elm", 4), ("address", "oak", 2))

    def test_stretches_that_lie_over_one_another(self):
        self.held("open", ("address", "oak", 1), ("address", "fir", 3))
        self.held("two", ("address", "oak", 1), ("address", "fir", 5))
        self.held("open", ("address", "oak", 1), ("address", "oak", 1))
        web = (pts((0, 0), (8, 0), (2, 0), (6, 0)), ((0, 1, (), 2), (3, 2, (), 2)))
        rows = (("ash", 0, 1, 1, 1, 0, 9), ("elm", 1, 1, 1, 1, 0, 9))
        self.held("open", ("address", "ash", 1), ("address", "elm", 1), atlas=((), web, rows, ()))

    def test_numbers_beside_one_another(self):
        self.held("open", ("address", "oak", 1), ("address", "oak", 2))
        self.held("two", ("address", "oak", 1), ("address", "oak", 3))
        self.held("open", ("address", "elm", 2), ("address", "elm", 3))

    def test_tiles(self):
        self.held("open", ("tile", "0"), ("tile", "0"))
        self.held("open", ("tile", "0"), ("tile", "012"))
        self.held("open", ("tile", ""), ("tile", "333333333"))
        self.held("two", ("tile", "0"), ("tile", "1"))
        self.held("two", ("tile", "012"), ("tile", "013"))
        self.held("two", ("tile", "03"), ("tile", "3"))

    def test_tiles_and_regions(self):
        self.held("open", ("tile", "0"), ("region", "east"))
        self.held("open", ("tile", "00012"), ("region", "east"))
        self.held("two", ("tile", "0000"), ("region", "east"))
        self.held("open", ("tile", "032"), ("region", "east"))
        self.held("two", ("tile", "032"), ("region", "land"))

    def test_regions_beside_one_another(self):
        for one in ("east", "land", "west"):
            for other in ("east", "land", "west"):
                self.held("open" if one == other else "two", ("region", one), ("region", other))

    def test_by_chance(self):
        chance = random.Random(102)
        seen = {}
        for _ in range(200):
            atlas = some_atlas(chance, below=chance.choice((1, 1, 2)))
            for _ in range(8):
                day = chance.randrange(12)
                form, other = some_form(chance, atlas, day), some_form(chance, atlas, day)
                word = held_by_the_words(atlas, day, form, other)
                self.held(word, form, other, day, atlas)
                seen.setdefault(tuple(sorted((form[0], other[0]))), set()).add(word)
        self.assertEqual(len(seen), 15)
        for kinds, words in seen.items():
            alone = set(kinds) <= {"point", "spot"}
            self.assertEqual(words, {"one", "two"} if alone else {"open", "two"}, kinds)


class Chain(Refusals):
    def test_each_of_the_form_ahead(self):
        form = ("point", "near", fr(1), fr(-1))
        told = chain(ATLAS, 5, form, ("address", ("tile", 5), "region", "spot"))
        self.assertEqual(told, (
            (("address", "fir", 3), (2, 1)),
            (("tile", "00001"), (1, 1)),
            (("region", "west"), (1, 1)),
            (("spot", 0, (2, 1)), (2, 1)),
        ))

    def test_one_to_eight_kinds(self):
        kinds = ("spot", ("tile", 3), "region", ("point", "far"), "address", "spot", ("tile", 9), ("point", "ground"))
        whole = chain(ATLAS, 5, ("tile", "0000"), kinds)
        for many in range(1, 9):
            told = chain(ATLAS, 5, ("tile", "0000"), kinds[:many])
            self.assertIs(type(told), tuple)
            self.assertEqual(told, whole[:many])
        form = ("tile", "0000")
        for kind, (there, off) in zip(kinds, whole):
            self.assertEqual(lead(ATLAS, 5, form, kind), (there, off))
            self.assertEqual(boxwise(anchor(ATLAS, 5, form), anchor(ATLAS, 5, there)), off)
            form = there

    def test_chains_that_are_none(self):
        wrong = [(), ("spot",) * 9, ("spot",) * 100, ["spot"], "spot", ("tile", 3), ("point", "near"), ("spot", None),
                 (None,), ("spot", "tile"), ("spot", ("tile", 10)), (("tile", True),), (("point", "other"), "spot"),
                 {"spot": 1}, ("spot", ["tile", 3]), (("spot",),), iter(("spot",)), (Prickly(),), ("spot", Prickly())]
        for thing in [*wrong, *ANYTHING, *OUTLANDISH]:
            self.refused(NoChain, chain, ATLAS, 5, ("tile", ""), thing)

    def test_ahead_of_all_leading(self):
        beyond = ("point", "ground", fr(-1), fr(0))
        self.refused(NotThere, chain, ATLAS, 5, beyond, ("region",))
        self.refused(NoChain, chain, ATLAS, 5, beyond, ("region", "what"))
        self.refused(NoChain, chain, ATLAS, 5, beyond, ("region",) * 9)

    def test_refused_in_its_midst(self):
        self.refused(NotThere, chain, ATLAS, 5, ("tile", ""), ("spot", "address", "region"))
        self.refused(NotThere, chain, BARE, 5, ("tile", ""), (("point", "ground"), ("tile", 3), "spot"))
        self.refused(NotThere, chain, ATLAS, 5, at(-1, 0), (("point", "near"), "region"))

    def test_by_chance(self):
        chance = random.Random(103)
        for _ in range(60):
            atlas, day = some_atlas(chance), chance.randrange(12)
            form = first = some_form(chance, atlas, day)
            kinds, expected = [], []
            while len(kinds) < 8:
                kind = some_kind(chance, atlas)
                told = led_by_the_words(atlas, day, form, kind)
                if told is None:
                    break
                ends = (anchor_by_the_words(atlas, day, thing) for thing in (form, told))
                expected.append((told, fr(boxwise_apart(*ends))))
                kinds.append(kind)
                form = told
            if kinds:
                self.assertEqual(chain(atlas, day, first, tuple(kinds)), tuple(expected))
            if len(kinds) < 8:
                self.refused(NotThere, chain, atlas, day, first, (*kinds, kind))

"""[3]: the promise over the whole."""

import random
import unittest
from fractions import Fraction

from onewhere.clocks import across, first_instant, instants, shown
from onewhere.errors import NotThere
from onewhere.frames import between, kept, led, told_in
from onewhere.places import against, anchor, both_mean, chain, is_form, lead, meant
from onewhere.points import boxwise, squared, streetwise, turn
from onewhere.regions import changed, great, ground, region_at, regions, rim
from onewhere.rings import area, is_ring, lies, nearest, sense, wound
from onewhere.routes import is_route, least, prices, route
from onewhere.sayings import held, hull
from onewhere.texts import form_text, read_form
from onewhere.tiles import box, common, cover, merged, tile_of
from onewhere.webs import long_of, nearest_spot, point_at
from tests.days import CELLS, REGIONS, middle_of_cell, some_moves, some_zones
from tests.forms import ground_has, ground_of_form, some_atlas, some_form, some_kind
from tests.roads import long_of_legs, questions
from tests.things import fr, pt, pts, val, way, xy

FRAMES = (
    ("mirror", "ground", way(-1, 0, 0, 1, 9, 0)),
    ("slant", "turned", way(1, "2/3", 0, 1, "1/2", 5)),
    ("street", "ground", way(0, -1, 1, 0, "7/3", -8)),
    ("stretch", "mirror", way(3, 0, 0, "1/7", 0, 0)),
    ("turned", "ground", way("3/5", "-4/5", "4/5", "3/5", -1, 1)),
    ("zoom", "stretch", way("5/2", 0, 0, "5/2", 1, 1)),
)
NAMES = ["ground"] + [name for name, _, _ in FRAMES]
RINGS = (
    pts((0, 0), (4, 0), (4, 4), (0, 4)),
    pts((0, 0), (9, 0), (9, 6), (6, 6), (6, 3), (3, 3), (3, 6), (0, 6)),
    pts((0, 0), (1, 3), (-1, 5), (2, 5), (3, 8), (4, 5), (7, 5), (5, 3), (6, 0), (3, 2)),
    pts((0, 0), (0, 1), (1, 0)),
)
POINTS = [pt(Fraction(x, 2), Fraction(y, 2)) for x in range(-3, 20, 2) for y in range(-2, 17, 3)]
POINTS += [pt(x, y) for x in range(0, 10, 3) for y in range(0, 7, 3)]


def moved(ring, name):
    return tuple(told_in(FRAMES, "ground", name, corner) for corner in ring)


def how_much(name):
    """By how much areas grow from the ground to a frame, below 0 where it mirrors."""
    a, b, c, d, _, _ = map(val, between(FRAMES, "ground", name))
    return a * d - b * c


class InEveryFrame(unittest.TestCase):
    def test_a_point_led_through_any_frames_and_back_is_itself(self):
        chance = random.Random(3)
        for point in POINTS[::5]:
            walk = [chance.choice(NAMES) for _ in range(10)]
            place = point
            for one, other in zip(walk, walk[1:] + walk[:1]):
                place = told_in(FRAMES, one, other, place)
            self.assertEqual(place, point)

    def test_a_ring_is_a_ring_and_a_point_lies_where_it_lay(self):
        for name in NAMES:
            way_there = between(FRAMES, "ground", name)
            for ring in RINGS:
                there = moved(ring, name)
                self.assertIs(is_ring(there), True)
                for point in POINTS:
                    self.assertEqual(lies(there, led(way_there, point)), lies(ring, point))

    def test_what_is_no_ring_is_none_in_any_frame(self):
        for corners in (pts((0, 0), (4, 4), (4, 0), (0, 4)), pts((0, 0), (6, 0), (6, 4), (3, 0), (0, 4))):
            for name in NAMES:
                self.assertIs(is_ring(moved(corners, name)), False)

    def test_areas_grow_as_the_map_does_and_sense_turns_where_it_mirrors(self):
        for name in NAMES:
            by = how_much(name)
            for ring in RINGS:
                there = moved(ring, name)
                self.assertEqual(val(area(there)), val(area(ring)) * abs(by))
                self.assertEqual(sense(there), sense(ring) if by > 0 else -sense(ring))

    def test_the_word_areas_is_there_just_where_areas_stay(self):
        for name in NAMES:
            stays = [area(moved(ring, name)) == area(ring) for ring in RINGS]
            self.assertEqual(stays, ["areas" in kept(between(FRAMES, "ground", name))] * len(RINGS))

    def test_the_word_turns_is_there_just_where_turns_stay(self):
        for name in NAMES:
            way_there = between(FRAMES, "ground", name)
            keeps = "turns" in kept(way_there)
            for one, two, three in zip(POINTS, POINTS[7:], POINTS[23:]):
                there = turn(*(led(way_there, point) for point in (one, two, three)))
                self.assertEqual(there, turn(one, two, three) * (1 if keeps else -1))
            for ring in RINGS:
                inside = nearest(ring, POINTS[0])[0]
                for point in [*POINTS, inside]:
                    count = wound(ring, point)
                    worth = count if keeps or count is None else -count
                    self.assertEqual(wound(moved(ring, name), led(way_there, point)), worth)

    def test_the_word_lengths_is_there_just_where_lengths_stay(self):
        for name in NAMES:
            way_there = between(FRAMES, "ground", name)
            stay = all(
                squared(led(way_there, one), led(way_there, other)) == squared(one, other)
                for one, other in zip(POINTS, POINTS[5:])
            )
            self.assertEqual(stay, "lengths" in kept(way_there))

    def test_the_nearest_point_stays_where_lengths_do(self):
        for name in ("mirror", "street", "turned"):
            way_there = between(FRAMES, "ground", name)
            self.assertIn("lengths", kept(way_there))
            for point in POINTS:
                spot, off = nearest(RINGS[0], point)
                self.assertEqual(nearest(moved(RINGS[0], name), led(way_there, point)), (led(way_there, spot), off))

    def test_the_three_ways_of_being_apart_go_together(self):
        for one, other in zip(POINTS, POINTS[11:]):
            box, street, square = (val(apart(one, other)) for apart in (boxwise, streetwise, squared))
            self.assertLessEqual(box, street)
            self.assertLessEqual(street, 2 * box)
            self.assertLessEqual(box ** 2, square)
            self.assertLessEqual(square, street ** 2)
            self.assertEqual(square, box ** 2 + (street - box) ** 2)


# How each of these lies to the square with corners at 0 and 4.
SQUARE = RINGS[0]
LYING = (
    ("same", SQUARE[1:] + SQUARE[:1]),
    ("in", pts((-1, -1), (9, -1), (9, 9), (-1, 9))),
    ("in", pts((0, 0), (9, 0), (9, 9), (0, 9))),
    ("holds", pts((1, 1), (3, 1), (2, 3))),
    ("holds", pts((0, 0), (4, 0), (4, 4))),
    ("apart", pts((5, 0), (9, 0), (9, 4))),
    ("apart", pts((4, 5), (9, 9), (4, 9))),
    ("touch", pts((4, 4), (6, 5), (5, 6))),
    ("touch", pts((4, 1), (4, 9), (9, 9))),
    ("touch", pts((6, 2), (2, 6), (6, 6))),
    ("cross", pts((2, 2), (6, 2), (6, 6), (2, 6))),
    ("cross", pts((0, 0), (4, 4), (6, 0))),
    ("cross", pts((-1, 1), (2, -3), (2, 9))),
)


class ShapesInEveryFrame(unittest.TestCase):
    def test_how_two_rings_lie_stays(self):
        for word, other in LYING:
            self.assertEqual(held(SQUARE, other), word)
            for name in NAMES:
                self.assertEqual(held(moved(SQUARE, name), moved(other, name)), word)

    def test_each_ring_with_each_ring(self):
        rings = [*RINGS, *(other for _, other in LYING)]
        for name in NAMES[1:]:
            there = [moved(ring, name) for ring in rings]
            for at in range(len(rings)):
                other = (at * 7 + 3) % len(rings)
                self.assertEqual(held(there[at], there[other]), held(rings[at], rings[other]))

    def test_the_hull_has_the_same_corners(self):
        for ring in RINGS:
            for name in NAMES:
                self.assertEqual(set(hull(moved(ring, name))), set(moved(hull(ring), name)))

    def test_what_is_in_a_ring_has_its_points_in_it(self):
        for word, other in LYING:
            for point in POINTS:
                here, there = lies(SQUARE, point), lies(other, point)
                if word == "same":
                    self.assertEqual(here, there)
                if word == "in" and here != "out":
                    self.assertIn(there, ("in", "on"))
                if word == "holds" and there != "out":
                    self.assertIn(here, ("in", "on"))
                if word == "apart":
                    self.assertIn("out", (here, there))
                if word == "touch":
                    self.assertNotEqual((here, there), ("in", "in"))


def tiles_area(codes):
    return sum((val(box(code)[2]) ** 2 for code in codes), Fraction(0))


class Tiles(unittest.TestCase):
    def test_a_tile_has_each_point_that_led_to_it(self):
        for point in POINTS:
            x, y = xy(point)
            if min(x, y) < 0:
                continue
            for depth in range(10):
                left, low, side = map(val, box(tile_of(point, depth)))
                self.assertTrue(left <= x < left + side and low <= y < low + side)
                middle = pt(left + side / 2, low + side / 2)
                self.assertLessEqual(val(boxwise(point, middle)), side / 2)
                self.assertEqual(tile_of(middle, depth), tile_of(point, depth))

    def test_a_rings_area_lies_between_those_of_its_tiles(self):
        rings = [
            pts((3, 5), (40, 8), (30, 33), (34, 60), (8, 44)),
            pts((0, 0), (32, 0), (32, 32), (0, 32)),
            pts((8, 8), (24, 8), (24, 24), (40, 24), (40, 8), (56, 8), (56, 56), (8, 56)),
            pts((1, 1), (2, 1), (1, 2)),
            pts((0, 0), ("127/2", 1), ("1/3", 63)),
        ]
        for ring in rings:
            least_so_far, most_so_far = Fraction(0), Fraction(64 * 64)
            for depth in range(5):
                within, met = (tiles_area(codes) for codes in cover(ring, depth))
                self.assertLessEqual(within, val(area(ring)))
                self.assertLessEqual(val(area(ring)), met)
                # What is known at one depth is known at the next one.
                self.assertLessEqual(least_so_far, within)
                self.assertLessEqual(met, most_so_far)
                least_so_far, most_so_far = within, met

    def test_merging_keeps_the_area(self):
        for depth in range(5):
            for codes in cover(pts((3, 5), (40, 8), (30, 33), (34, 60), (8, 44)), depth):
                self.assertEqual(tiles_area(merged(codes)), tiles_area(codes))


class Roads(unittest.TestCase):
    def test_a_spots_point_leads_to_a_spot_there(self):
        for web, start, goal, _ in questions(65, 60):
            for spot in (start, goal):
                off, road, far = nearest_spot(web, point_at(web, spot))
                self.assertEqual(off, (0, 1))
                self.assertEqual(point_at(web, (road, far)), point_at(web, spot))

    def test_the_long_of_the_legs_is_the_least(self):
        for web, start, goal, closed in questions(66, 150):
            legs = route(web, start, goal, closed=closed)
            least_long = least(web, start, goal, closed=closed)
            if legs is None:
                self.assertIsNone(least_long)
            else:
                self.assertEqual(fr(long_of_legs(legs)), least_long)
                self.assertIs(is_route(web, start, goal, legs, closed=closed), True)

    def test_no_price_shows_a_lesser_one(self):
        for web, start, goal, closed in questions(67, 60):
            least_long = least(web, start, goal, closed=closed)
            price = prices(web, start, closed=closed)
            for number, (one, other, _, _) in enumerate(web[1]):
                for crossing, far in ((one, (0, 1)), (other, long_of(web, number))):
                    rest = least(web, (number, far), goal, closed=closed)
                    if price[crossing] is not None and rest is not None:
                        self.assertLessEqual(val(least_long), val(price[crossing]) + val(rest))

    def test_no_road_makes_a_price_less(self):
        for web, start, _, closed in questions(68, 100):
            price = [None if told is None else val(told) for told in prices(web, start, closed=closed)]
            for number, (one, other, _, ways) in enumerate(web[1]):
                for begin, end in ((one, other), (other, one))[:ways]:
                    if number not in closed and price[begin] is not None:
                        self.assertLessEqual(price[end], price[begin] + val(long_of(web, number)))


class Regions(unittest.TestCase):
    def test_each_point_of_the_land_is_of_one_region_on_each_day(self):
        chance = random.Random(70)
        for _ in range(20):
            moves, day = some_moves(chance), chance.randrange(11)
            point = pt(Fraction(chance.randrange(640), 10), Fraction(chance.randrange(640), 10))
            owners = [region for region in regions(moves, day)
                      if common(ground(moves, region, day), (tile_of(point, 9),))]
            self.assertEqual(owners, [region_at(moves, point, day)])

    def test_the_areas_of_all_regions_come_to_that_of_the_land(self):
        chance = random.Random(71)
        for _ in range(30):
            moves, day = some_moves(chance), chance.randrange(11)
            self.assertEqual(sum(val(great(moves, region, day)) for region in regions(moves, day)), 64 * 64)
            for region in REGIONS:
                self.assertEqual(val(great(moves, region, day)), tiles_area(ground(moves, region, day)))
                self.assertIs(val(great(moves, region, day)) > 0, region in regions(moves, day))

    def test_areas_turn_by_what_changes_hands(self):
        chance = random.Random(72)
        for _ in range(30):
            moves, day, other = some_moves(chance), chance.randrange(11), chance.randrange(11)
            hands = changed(moves, day, other)
            for region in REGIONS:
                got = tiles_area(code for code, _, end in hands if end == region)
                lost = tiles_area(code for code, begin, _ in hands if begin == region)
                turned = val(great(moves, region, other)) - val(great(moves, region, day))
                self.assertEqual(turned, got - lost)

    def test_what_changed_hands_was_the_ones_and_is_the_others(self):
        chance = random.Random(73)
        for _ in range(30):
            moves, day, other = some_moves(chance), chance.randrange(11), chance.randrange(11)
            for code, begin, end in changed(moves, day, other):
                self.assertEqual(common(ground(moves, begin, day), (code,)), (code,))
                self.assertEqual(common(ground(moves, end, other), (code,)), (code,))
            back = sorted((code, end, begin) for code, begin, end in changed(moves, day, other))
            self.assertEqual(changed(moves, other, day), back)

    def test_a_border_is_that_of_both(self):
        chance = random.Random(74)
        for _ in range(20):
            moves, day = some_moves(chance), chance.randrange(11)
            sides = [side for region in regions(moves, day) for side in rim(moves, region, day)]
            for side in set(sides):
                (x, y), (right, up) = side
                at_the_end = x == right and x in (0, 64) or y == up and y in (0, 64)
                self.assertEqual(sides.count(side), 1 if at_the_end else 2)


class Clocks(unittest.TestCase):
    def test_a_telling_leads_back_to_the_instant_at_which_it_was_shown(self):
        chance = random.Random(75)
        for _ in range(200):
            moves, zones = some_moves(chance), some_zones(chance)
            point = pt(*middle_of_cell(chance.choice(CELLS)))
            instant = chance.randrange(10 * 1440)
            found = instants(moves, zones, point, shown(moves, zones, point, instant))
            self.assertIn(instant, found)
            self.assertEqual(found, sorted(set(found)))
            self.assertEqual(first_instant(moves, zones, point, shown(moves, zones, point, instant)), found[0])
            for other in found:
                self.assertEqual(shown(moves, zones, point, other), shown(moves, zones, point, instant))

    def test_each_instant_is_one_for_all_places(self):
        chance = random.Random(76)
        for _ in range(100):
            moves, zones = some_moves(chance), some_zones(chance)
            point, other = (pt(*middle_of_cell(cell)) for cell in chance.sample(CELLS, 2))
            instant = chance.randrange(10 * 1440)
            told = across(moves, zones, point, other, shown(moves, zones, point, instant))
            self.assertIn(shown(moves, zones, other, instant), told)
            for telling in told:
                self.assertIn(shown(moves, zones, point, instant), across(moves, zones, other, point, telling))


def leadings(seed, many):
    """(atlas, day, form, kinds, told): chains by chance that are not refused."""
    chance = random.Random(seed)
    while many:
        atlas, day = some_atlas(chance, below=chance.choice((1, 2))), chance.randrange(12)
        form = some_form(chance, atlas, day)
        kinds = tuple(some_kind(chance, atlas) for _ in range(chance.randint(1, 8)))
        try:
            told = chain(atlas, day, form, kinds)
        except NotThere:
            continue
        many -= 1
        yield atlas, day, form, kinds, told


class OnePlaceInManyForms(unittest.TestCase):
    def test_no_further_away_than_all_that_was_told_together(self):
        for atlas, day, form, kinds, told in leadings(100, 150):
            self.assertEqual(len(told), len(kinds))
            whole = Fraction(0)
            for there, off in told:
                whole += val(off)
                self.assertLessEqual(val(boxwise(anchor(atlas, day, form), anchor(atlas, day, there))), whole)

    def test_a_form_that_was_led_to_is_one_and_may_be_written(self):
        for atlas, day, _, kinds, told in leadings(101, 100):
            for kind, (there, _) in zip(kinds, told):
                self.assertEqual(there[0], kind if isinstance(kind, str) else kind[0])
                self.assertIs(is_form(atlas, day, there), True)
                self.assertEqual(read_form(form_text(there)), there)

    def test_a_point_led_through_any_frames_and_back_is_itself(self):
        chance = random.Random(102)
        for _ in range(60):
            atlas = some_atlas(chance)
            names = ["ground"] + [name for name, _, _ in atlas[0]]
            frame = chance.choice(names)
            form = ("point", frame, fr(Fraction(chance.randint(-90, 90), 7)), fr(chance.randint(-9, 99)))
            way_round = [("point", chance.choice(names)) for _ in range(7)] + [("point", frame)]
            told = chain(atlas, 0, form, tuple(way_round))
            self.assertEqual(told[-1], (form, (0, 1)))
            for there, off in told:
                self.assertEqual(off, (0, 1))
                self.assertEqual(against(atlas, 0, form, there), "one")

    def test_a_tile_has_each_point_that_led_to_it(self):
        for atlas, day, form, kinds, told in leadings(103, 300):
            there, off = told[0]
            if there[0] == "tile":
                ground = ground_of_form(atlas, day, there)
                self.assertTrue(ground_has(ground, xy(anchor(atlas, day, form))))
                self.assertLessEqual(val(off), val(box(there[1])[2]) / 2)
                if form[0] in ("point", "spot"):
                    self.assertEqual(against(atlas, day, form, there), "open")

    def test_a_numbers_stretch_has_each_spot_that_led_to_it(self):
        found = 0
        for atlas, day, form, kinds, told in leadings(104, 500):
            there, _ = told[0]
            if form[0] == "spot" and there[0] == "address":
                found += 1
                self.assertEqual(against(atlas, day, form, there), "open")
                self.assertEqual(both_mean(atlas, day, form, there), point_at(atlas[1], form[1:]))
                # The spot itself, where no road with a lesser number, or far, goes over it.
                if lead(atlas, day, form, "spot")[0] == form:
                    _, road, low, high = meant(atlas, day, there)
                    self.assertEqual(road, form[1])
                    self.assertTrue(val(low) <= val(form[2]) <= val(high))
        self.assertGreater(found, 5)

    def test_a_region_has_the_middle_of_each_tile_that_led_to_it(self):
        found = 0
        for atlas, day, form, kinds, told in leadings(105, 400):
            there, _ = told[0]
            if there[0] == "region":
                found += form[0] == "tile"
                point = ("point", "ground", *anchor(atlas, day, form))
                self.assertEqual(against(atlas, day, point, there), "open")
                self.assertEqual(region_at(atlas[3], anchor(atlas, day, form), day), there[1])
        self.assertGreater(found, 5)

    def test_what_is_surely_one_place_is_led_alike(self):
        chance = random.Random(106)
        for _ in range(60):
            atlas, day = some_atlas(chance), chance.randrange(12)
            form = some_form(chance, atlas, day)
            there, _ = lead(atlas, day, form, ("point", chance.choice(["ground"] + [name for name, _, _ in atlas[0]])))
            self.assertEqual(anchor(atlas, day, there), anchor(atlas, day, form))
            if form[0] in ("point", "spot"):
                self.assertEqual(against(atlas, day, form, there), "one")
            try:
                expected = lead(atlas, day, form, "region")
            except NotThere:
                continue
            self.assertEqual(lead(atlas, day, there, "region"), expected)

"""[3], as far as it speaks of points, frames and rings: what holds in every frame, and what in those told."""

import random
import unittest
from fractions import Fraction

from onewhere.frames import between, kept, led, told_in
from onewhere.points import boxwise, squared, streetwise, turn
from onewhere.rings import area, is_ring, lies, nearest, sense, wound
from tests.things import pt, pts, val, way

FRAMES = (
    ("mirror", "ground", way(-1, 0, 0, 1, 9, 0)),
    ("slant", "turned", way(1, "2/3", 0, 1, "1/2", 5)),
    ("street", "ground", way(0, -1, 1, 0, "7/3", -8)),
    ("stretch", "mirror", way(3, 0, 0, "1/7", 0, 0)),
    ("turned", "ground", way("3/5", "-4/5", "4/5", "3/5", -1, 1)),
    ("zoom", "stretch", way("5/2", 0, 0, "5/2", 1, 1)),
)
NAMES = ["ground"] + [name for name, _, _ in FRAMES]
RINGS = (
    pts((0, 0), (4, 0), (4, 4), (0, 4)),
    pts((0, 0), (9, 0), (9, 6), (6, 6), (6, 3), (3, 3), (3, 6), (0, 6)),
    pts((0, 0), (1, 3), (-1, 5), (2, 5), (3, 8), (4, 5), (7, 5), (5, 3), (6, 0), (3, 2)),
    pts((0, 0), (0, 1), (1, 0)),
)
POINTS = [pt(Fraction(x, 2), Fraction(y, 2)) for x in range(-3, 20, 2) for y in range(-2, 17, 3)]
POINTS += [pt(x, y) for x in range(0, 10, 3) for y in range(0, 7, 3)]


def moved(ring, name):
    return tuple(told_in(FRAMES, "ground", name, corner) for corner in ring)


def how_much(name):
    """By how much areas grow from the ground to a frame, below 0 where it mirrors."""
    a, b, c, d, _, _ = map(val, between(FRAMES, "ground", name))
    return a * d - b * c


class InEveryFrame(unittest.TestCase):
    def test_a_point_led_through_any_frames_and_back_is_itself(self):
        chance = random.Random(3)
        for point in POINTS[::5]:
            walk = [chance.choice(NAMES) for _ in range(10)]
            place = point
            for one, other in zip(walk, walk[1:] + walk[:1]):
                place = told_in(FRAMES, one, other, place)
            self.assertEqual(place, point)

    def test_a_ring_is_a_ring_and_a_point_lies_where_it_lay(self):
        for name in NAMES:
            way_there = between(FRAMES, "ground", name)
            for ring in RINGS:
                there = moved(ring, name)
                self.assertIs(is_ring(there), True)
                for point in POINTS:
                    self.assertEqual(lies(there, led(way_there, point)), lies(ring, point))

    def test_what_is_no_ring_is_none_in_any_frame(self):
        for corners in (pts((0, 0), (4, 4), (4, 0), (0, 4)), pts((0, 0), (6, 0), (6, 4), (3, 0), (0, 4))):
            for name in NAMES:
                self.assertIs(is_ring(moved(corners, name)), False)

    def test_areas_grow_as_the_map_does_and_sense_turns_where_it_mirrors(self):
        for name in NAMES:
            by = how_much(name)
            for ring in RINGS:
                there = moved(ring, name)
                self.assertEqual(val(area(there)), val(area(ring)) * abs(by))
                self.assertEqual(sense(there), sense(ring) if by > 0 else -sense(ring))

    def test_the_word_areas_is_there_just_where_areas_stay(self):
        for name in NAMES:
            stays = [area(moved(ring, name)) == area(ring) for ring in RINGS]
            self.assertEqual(stays, ["areas" in kept(between(FRAMES, "ground", name))] * len(RINGS))

    def test_the_word_turns_is_there_just_where_turns_stay(self):
        for name in NAMES:
            way_there = between(FRAMES, "ground", name)
            keeps = "turns" in kept(way_there)
            for one, two, three in zip(POINTS, POINTS[7:], POINTS[23:]):
                there = turn(*(led(way_there, point) for point in (one, two, three)))
                self.assertEqual(there, turn(one, two, three) * (1 if keeps else -1))
            for ring in RINGS:
                inside = nearest(ring, POINTS[0])[0]
                for point in [*POINTS, inside]:
                    count = wound(ring, point)
                    worth = count if keeps or count is None else -count
                    self.assertEqual(wound(moved(ring, name), led(way_there, point)), worth)

    def test_the_word_lengths_is_there_just_where_lengths_stay(self):
        for name in NAMES:
            way_there = between(FRAMES, "ground", name)
            stay = all(
                squared(led(way_there, one), led(way_there, other)) == squared(one, other)
                for one, other in zip(POINTS, POINTS[5:])
            )
            self.assertEqual(stay, "lengths" in kept(way_there))

    def test_the_nearest_point_stays_where_lengths_do(self):
        for name in ("mirror", "street", "turned"):
            way_there = between(FRAMES, "ground", name)
            self.assertIn("lengths", kept(way_there))
            for point in POINTS:
                spot, off = nearest(RINGS[0], point)
                self.assertEqual(nearest(moved(RINGS[0], name), led(way_there, point)), (led(way_there, spot), off))

    def test_the_three_ways_of_being_apart_go_together(self):
        for one, other in zip(POINTS, POINTS[11:]):
            box, street, square = (val(apart(one, other)) for apart in (boxwise, streetwise, squared))
            self.assertLessEqual(box, street)
            self.assertLessEqual(street, 2 * box)
            self.assertLessEqual(box ** 2, square)
            self.assertLessEqual(square, street ** 2)
            self.assertEqual(square, box ** 2 + (street - box) ** 2)

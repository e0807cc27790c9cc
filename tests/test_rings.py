"""rings: [30] and [31]."""

import random
import unittest
from fractions import Fraction

from onewhere.rings import area, is_ring, lies, nearest, sense, wound
from tests.ground import segments_meet
from tests.things import ANYTHING, BIG, OUTLANDISH, either_way_from_each_corner, pt, pts, val, xy

SQUARE = pts((0, 0), (4, 0), (4, 4), (0, 4))
# Its mouth is open upwards.
CUP = pts((0, 0), (9, 0), (9, 6), (6, 6), (6, 3), (3, 3), (3, 6), (0, 6))
STAR = pts((0, 0), (1, 3), (-1, 5), (2, 5), (3, 8), (4, 5), (7, 5), (5, 3), (6, 0), (3, 2))
SLIVER = pts(("1/3", "1/7"), (BIG, BIG - 1), (BIG, BIG))
# A snail: ground that winds in, and a way between its turns that is out.
SNAIL = pts((0, 0), (7, 0), (7, 7), (1, 7), (1, 2), (5, 2), (5, 5), (3, 5), (3, 6), (6, 6), (6, 1), (0, 1))
RINGS = (SQUARE, CUP, STAR, SLIVER, SNAIL, pts((0, 0), (1, 0), (0, 1)))


def polygon(many):
    """A ring of so many corners on a parabola, none three of them on a line."""
    return tuple(pt(at, at * at) for at in range(many))


def is_ring_by_the_words(corners):
    """[30] for unlike neighbours, as plainly as may be."""
    many = len(corners)
    for at in range(many):
        (ax, ay), (bx, by), (cx, cy) = corners[at - 2], corners[at - 1], corners[at]
        if (bx - ax) * (cy - ay) == (by - ay) * (cx - ax):
            return False
    for at in range(many):
        for other in range(many):
            if (at - other) % many not in (0, 1, many - 1) and segments_meet(
                corners[at], corners[(at + 1) % many], corners[other], corners[(other + 1) % many]
            ):
                return False
    return True


class IsRing(unittest.TestCase):
    def test_rings(self):
        for ring in RINGS:
            for same, _ in either_way_from_each_corner(ring):
                self.assertIs(is_ring(same), True)

    def test_three_to_twelve_corners(self):
        for many in range(3, 13):
            self.assertIs(is_ring(polygon(many)), True, many)
        for many in (0, 1, 2, 13, 14):
            self.assertIs(is_ring(polygon(many)), False, many)

    def refused(self, *pairs):
        for same, _ in either_way_from_each_corner(pts(*pairs)):
            self.assertIs(is_ring(same), False, same)

    def test_sides_that_cross(self):
        self.refused((0, 0), (4, 4), (4, 0), (0, 4))
        self.refused((0, 0), (6, 0), (6, 4), (3, -1), (0, 4))
        self.refused((0, 0), (3, 9), (6, 0), (-1, 6), (7, 6))

    def test_a_corner_on_another_side(self):
        self.refused((0, 0), (6, 0), (6, 4), (3, 0), (0, 4))
        self.refused((0, 0), (6, 0), (6, 4), ("10/3", 0), (0, 4))
        self.assertIs(is_ring(pts((0, 0), (6, 0), (6, 4), (3, Fraction(1, BIG)), (0, 4))), True)
        self.assertIs(is_ring(pts((0, 0), (6, 0), (6, 4), (3, Fraction(-1, BIG)), (0, 4))), False)

    def test_sides_that_lie_on_one_another(self):
        self.refused((0, 0), (8, 0), (8, 3), (6, 0), (2, 0), (0, 3))
        self.refused((0, 0), (4, 0), (4, 4), (2, 0), (6, 0), (6, 6), (0, 6))

    def test_on_one_line_but_apart(self):
        self.assertIs(is_ring(CUP), True)
        self.assertIs(is_ring(pts((0, 0), (2, 0), (3, 1), (4, 0), (6, 0), (6, 5), (0, 5))), True)

    def test_two_corners_alike(self):
        self.refused((0, 0), (0, 0), (4, 0), (0, 4))
        self.refused((0, 0), (4, 0), (2, 2), (4, 4), (0, 4), (2, 2))
        self.refused((0, 0), (4, 0), (0, 0), (0, 4))
        self.refused((0, 0), (4, 0), (0, 0))
        self.refused((1, 1), (1, 1), (1, 1))

    def test_a_corner_on_a_line_with_both_its_neighbours(self):
        self.refused((0, 0), (2, 0), (4, 0), (4, 4))
        self.refused((0, 0), (4, 0), (2, 0), (2, 4))
        self.refused((0, 0), (1, 1), (2, 2))
        self.refused((0, 0), (4, 0), (4, 4), (0, 4), (0, 2))
        self.assertIs(is_ring(pts((0, 0), (2, Fraction(-1, BIG)), (4, 0), (4, 4))), True)

    def test_corners_that_are_no_points(self):
        for bad in [(0, 0), None, [(0, 1), (0, 1)], ((0, 2), (0, 1)), ((0, True), (0, 1)), ((1, 1), (2, 2)), ((0, 1),)]:
            for at in range(4):
                self.assertIs(is_ring(SQUARE[:at] + (bad,) + SQUARE[at + 1:]), False)

    def test_lists_and_others(self):
        for thing in [list(SQUARE), SQUARE[:2], SQUARE[:1], (), (SQUARE,), {at: SQUARE[at] for at in range(4)}]:
            self.assertIs(is_ring(thing), False)

    def test_of_anything(self):
        for thing in [*ANYTHING, *OUTLANDISH]:
            self.assertIs(is_ring(thing), False)

    def test_against_the_words(self):
        chance = random.Random(30)
        found = {True: 0, False: 0}
        for _ in range(3000):
            many = chance.randint(3, 7)
            corners = [(chance.randint(0, 6), chance.randint(0, 6)) for _ in range(many)]
            worth = is_ring_by_the_words([(Fraction(x), Fraction(y)) for x, y in corners])
            self.assertIs(is_ring(pts(*corners)), worth, corners)
            found[worth] += 1
        self.assertGreater(min(found.values()), 300)


class AreaAndSense(unittest.TestCase):
    def told(self, ring, size, about):
        for same, way_about in either_way_from_each_corner(ring):
            self.assertEqual(val(area(same)), Fraction(size))
            self.assertEqual(sense(same), about * way_about)
            self.assertIs(type(sense(same)), int)

    def test_either_way_about_from_each_corner_on(self):
        self.told(SQUARE, 16, 1)
        self.told(SQUARE[::-1], 16, -1)
        self.told(CUP, 45, 1)
        self.told(SNAIL, 32, 1)
        self.told(STAR, 24, -1)
        self.told(pts((0, 0), (1, 0), (0, 1)), "1/2", 1)
        self.told(pts(("1/2", "1/3"), ("1/2", "4/3"), (1, 1)), "1/4", -1)

    def test_great_and_small(self):
        self.told(pts((-BIG, -BIG), (BIG, -BIG), (BIG, BIG), (-BIG, BIG)), 4 * BIG * BIG, 1)
        self.told(pts((0, 0), (Fraction(1, BIG), 0), (0, Fraction(1, BIG))), Fraction(1, 2 * BIG * BIG), 1)
        self.assertEqual(sense(SLIVER), 1)


def by_a_ray(ring, x, y):
    """Where a point lies, by the count of sides that a slanted ray from it crosses."""
    corners = [xy(corner) for corner in ring]
    rows = list(zip(corners, corners[1:] + corners[:1]))
    if any(segments_meet(a, b, (x, y), (x, y)) for a, b in rows if a != b):
        return "on"
    # So slanted that no corner of small whole numbers lies on it.
    far = (x + 1000, y + Fraction(1000, 7919 * 31))
    assert not any(segments_meet((x, y), far, corner, corner) for corner in corners)
    return "in" if sum(segments_meet((x, y), far, a, b) for a, b in rows) % 2 else "out"


class LiesAndWound(unittest.TestCase):
    def told(self, word, ring, x, y):
        for same, way_about in either_way_from_each_corner(ring):
            self.assertEqual(lies(same, pt(x, y)), word)
            count = wound(same, pt(x, y))
            if word == "on":
                self.assertIsNone(count)
            else:
                self.assertIs(type(count), int)
                self.assertEqual(count, way_about * sense(ring) if word == "in" else 0)

    def test_square(self):
        self.told("in", SQUARE, 2, 2)
        self.told("in", SQUARE, Fraction(1, BIG), Fraction(1, BIG))
        for corner in SQUARE:
            self.told("on", SQUARE, *xy(corner))
        for x, y in ((2, 0), (4, 1), ("1/3", 4), (0, "7/2")):
            self.told("on", SQUARE, x, y)
        for x, y in ((5, 2), (-1, 2), (2, 5), (2, -1), (5, 0), (-1, 0), (5, 4), (-1, 4), (0, 5), (4, -1), (9, 9)):
            self.told("out", SQUARE, x, y)
        self.told("out", SQUARE, 4 + Fraction(1, BIG), 2)
        self.told("out", SQUARE, 2, -Fraction(1, BIG))

    def test_left_and_right_about(self):
        self.assertEqual(wound(SQUARE, pt(1, 1)), 1)
        self.assertEqual(wound(SQUARE[::-1], pt(1, 1)), -1)
        self.assertEqual(wound(SQUARE, pt(9, 9)), 0)
        self.assertEqual(wound(SQUARE[::-1], pt(9, 9)), 0)
        self.assertEqual(wound(STAR, pt(3, 4)), -1)

    def test_in_the_mouth_and_level_with_corners(self):
        self.told("out", CUP, "9/2", 4)
        self.told("out", CUP, "9/2", 6)
        self.told("on", CUP, "9/2", 3)
        self.told("in", CUP, 1, 3)
        self.told("in", CUP, 7, 3)
        self.told("out", CUP, -1, 3)
        self.told("out", CUP, -1, 6)
        self.told("out", CUP, 10, 6)
        self.told("in", SNAIL, "13/2", 3)
        self.told("in", SNAIL, 2, 4)
        self.told("out", SNAIL, "11/2", 4)
        self.told("out", SNAIL, 4, "11/2")
        self.told("out", SNAIL, 3, "3/2")

    def test_against_a_ray(self):
        for ring in (SQUARE, CUP, STAR, SNAIL):
            for x in range(-4, 20):
                for y in range(-2, 19):
                    x_at, y_at = Fraction(x, 2), Fraction(y, 2)
                    self.told_once(by_a_ray(ring, x_at, y_at), ring, x_at, y_at)

    def told_once(self, word, ring, x, y):
        self.assertEqual(lies(ring, pt(x, y)), word, (ring, x, y))
        worth = {"in": sense(ring), "out": 0, "on": None}[word]
        self.assertEqual(wound(ring, pt(x, y)), worth)


class Nearest(unittest.TestCase):
    def told(self, ring, point, spot, off):
        for same, _ in either_way_from_each_corner(ring):
            self.assertEqual(nearest(same, point), (spot, off))
            self.assertIs(type(nearest(same, point)), tuple)

    def test_from_within_and_from_the_rim(self):
        for x, y in ((2, 2), (1, "1/3"), (0, 0), (4, 4), (4, 1), ("1/3", 4)):
            self.told(SQUARE, pt(x, y), pt(x, y), (0, 1))

    def test_by_a_side(self):
        self.told(SQUARE, pt(6, 1), pt(4, 1), (4, 1))
        self.told(SQUARE, pt("1/3", -2), pt("1/3", 0), (4, 1))
        self.told(pts((0, 0), (4, 0), (0, 3)), pt(4, 3), pt("64/25", "27/25"), (144, 25))
        self.told(SQUARE, pt(1, 4 + Fraction(1, BIG)), pt(1, 4), (1, BIG ** 2))

    def test_by_a_corner(self):
        self.told(SQUARE, pt(7, 8), pt(4, 4), (25, 1))
        self.told(SQUARE, pt(-1, "-1/2"), pt(0, 0), (5, 4))
        self.told(SQUARE, pt(5, 4), pt(4, 4), (1, 1))
        self.told(SQUARE, pt(0, 9), pt(0, 4), (25, 1))

    def test_of_several_as_near_the_least(self):
        self.told(CUP, pt("9/2", 5), pt(3, 5), (9, 4))
        self.told(CUP, pt("9/2", "9/2"), pt(3, "9/2"), (9, 4))
        # A mouth that is open to the right: the two nearest points differ by y alone.
        sideways = pts((0, 0), (6, 0), (6, 3), (3, 3), (3, 6), (6, 6), (6, 9), (0, 9))
        for up in (0, 20, -20):
            shifted = tuple(pt(x, y + up) for x, y in map(xy, sideways))
            self.told(shifted, pt(5, Fraction(9, 2) + up), pt(5, 3 + up), (9, 4))
        # The corners (-1, 2) and (2, -1) are as near: the lesser x counts, though its y is the greater one.
        notch = pts((-9, -9), (2, -9), (2, -1), (-1, -1), (-1, 2), (-9, 2))
        self.told(notch, pt(3, 3), pt(-1, 2), (17, 1))

    def test_least_by_size_and_not_by_the_tops(self):
        # The nearest points have x 1/2 and 2/5: the lesser top has the greater size.
        ring = pts(("2/5", 1), ("2/5", 2), ("1/10", 2), ("1/10", 0), (1, 0), (1, 2), ("1/2", 2), ("1/2", 1))
        self.told(ring, pt("9/20", "3/2"), pt("2/5", "3/2"), (1, 400))

    def least_by_corners_and_sides(self, ring, x, y):
        """The nearest point, by what each side's line and each corner is off."""
        x, y = Fraction(x), Fraction(y)
        corners = [xy(corner) for corner in ring]
        found = []
        for (ax, ay), (bx, by) in zip(corners, corners[1:] + corners[:1]):
            found.append(((ax - x) ** 2 + (ay - y) ** 2, ax, ay))
            ux, uy = bx - ax, by - ay
            along = ((x - ax) * ux + (y - ay) * uy) / Fraction(ux * ux + uy * uy)
            if 0 < along < 1:
                sx, sy = ax + along * ux, ay + along * uy
                found.append(((sx - x) ** 2 + (sy - y) ** 2, sx, sy))
        off, sx, sy = min(found)
        return pt(sx, sy), (off.numerator, off.denominator)

    def test_against_reckoning(self):
        chance = random.Random(31)
        for ring in RINGS:
            for _ in range(120):
                x, y = (Fraction(chance.randint(-20, 40), chance.randint(1, 4)) for _ in range(2))
                point = pt(x, y)
                if lies(ring, point) == "out":
                    worth = self.least_by_corners_and_sides(ring, x, y)
                else:
                    worth = (point, (0, 1))
                self.assertEqual(nearest(ring, point), worth)

    def test_the_nearest_point_is_the_rings(self):
        for ring in RINGS:
            for x, y in ((-50, 3), (50, 50), (3, -50), (4, 5)):
                spot, _ = nearest(ring, pt(x, y))
                self.assertNotEqual(lies(ring, spot), "out")
                self.assertEqual(nearest(ring, spot), (spot, (0, 1)))

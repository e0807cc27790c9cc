"""sayings: [32] and [33]."""

import itertools
import random
import unittest
from fractions import Fraction

from onewhere.errors import NoPoints, NoRing, WhereError
from onewhere.rings import is_ring, sense
from onewhere.sayings import held, hull
from tests.ground import held_by_the_patches, plain
from tests.things import ANYTHING, BIG, OUTLANDISH, either_way_from_each_corner, pt, pts, xy

SQUARE = pts((0, 0), (4, 0), (4, 4), (0, 4))
# Its mouth is open upwards.
CUP = pts((0, 0), (9, 0), (9, 6), (6, 6), (6, 3), (3, 3), (3, 6), (0, 6))
STAR = pts((0, 0), (1, 3), (-1, 5), (2, 5), (3, 8), (4, 5), (7, 5), (5, 3), (6, 0), (3, 2))
OTHER_WAY = {"same": "same", "in": "holds", "holds": "in", "apart": "apart", "touch": "touch", "cross": "cross"}


class Held(unittest.TestCase):
    def lie(self, word, ring, *pairs):
        """Two rings lie so, whatever corner each begins at and whatever way about it goes."""
        other = pts(*pairs)
        self.assertIs(is_ring(other), True)
        pairs = [(one, other) for one, _ in either_way_from_each_corner(ring)]
        pairs += [(ring, two) for two, _ in either_way_from_each_corner(other)]
        for one, two in pairs:
            self.assertEqual(held(one, two), word)
            self.assertEqual(held(two, one), OTHER_WAY[word])

    def test_same(self):
        for ring in (SQUARE, CUP, STAR, pts((0, 0), (1, 0), (0, 1))):
            self.lie("same", ring, *(xy(corner) for corner in ring))

    def test_nearly_the_same(self):
        little = Fraction(1, BIG)
        self.lie("holds", SQUARE, (0, 0), (4, 0), (4 - little, 4), (0, 4))
        self.lie("in", SQUARE, (0, 0), (4 + little, 0), (4, 4), (0, 4))
        self.lie("in", SQUARE, (0, 0), (2, -little), (4, 0), (4, 4), (0, 4))
        self.lie("holds", SQUARE, (0, 0), (2, little), (4, 0), (4, 4), (0, 4))
        self.lie("cross", SQUARE, (little, 0), (4 + little, 0), (4 + little, 4), (little, 4))
        self.lie("cross", SQUARE, (0, 0), (4 + little, 0), (4 - little, 4), (0, 4))

    def test_holds_with_no_common_rim(self):
        self.lie("holds", SQUARE, (1, 1), (3, 1), (2, 3))
        self.lie("holds", CUP, (1, 1), (8, 1), (8, 5), (7, 5), (7, 2), (1, 2))
        self.lie("in", SQUARE, (-1, -1), (9, -1), (0, 9), (-1, 9))

    def test_holds_with_a_common_part_of_the_rim(self):
        self.lie("holds", SQUARE, (1, 0), (3, 0), (2, 2))
        self.lie("holds", SQUARE, (0, 0), (4, 0), (4, 4))
        self.lie("holds", SQUARE, (0, 0), (4, 0), (4, 3), (0, 3))
        self.lie("holds", CUP, (0, 0), (3, 0), (3, 6), (0, 6))
        self.lie("in", SQUARE, (0, 0), (9, 0), (9, 9), (0, 9))

    def test_holds_with_common_points_of_the_rim_alone(self):
        self.lie("holds", SQUARE, (2, 0), (4, 2), (2, 4), (0, 2))
        self.lie("holds", SQUARE, (2, 2), (4, 4), (2, 3))
        self.lie("holds", SQUARE, (0, 0), (3, 1), (4, 4), (1, 3))
        self.lie("holds", STAR, (0, 0), (3, 2), (3, 3))
        self.lie("in", SQUARE, (-2, 2), (2, -2), (6, 2), (2, 6))

    def test_what_has_all_corners_in_is_not_held_for_that(self):
        self.lie("cross", CUP, (1, 4), (2, 1), (8, 4))
        self.lie("in", CUP, (0, 0), (9, 0), (9, 6), (0, 6))
        self.lie("cross", CUP, (1, 5), (8, 5), (8, 1))

    def test_out_in_the_midst_of_a_side_alone(self):
        # A mouth to the one and to the other side of the middle, so that the middle of the side lies on the rim.
        for low, high in ((5, 8), (1, 4)):
            cup = pts((0, 0), (9, 0), (9, 6), (high, 6), (high, 3), (low, 3), (low, 6), (0, 6))
            self.lie("in", cup, (0, 0), (9, 0), (9, 6), (0, 6))
            self.lie("touch", cup, (0, 6), (9, 6), (5, 8))
            self.lie("cross", cup, (0, 6), (9, 6), (high, 2), (low, 2))
            self.lie("cross", cup, (-1, 6), (10, 6), (10, 5), (-1, 5))

    def test_what_has_all_corners_on_the_rim_is_not_held_for_that(self):
        self.lie("touch", CUP, (3, 3), (6, 3), (6, 6), (3, 6))
        self.lie("touch", CUP, (3, 6), (6, 3), (6, 6))
        self.lie("cross", CUP, (0, 6), (3, 3), (6, 6))
        self.lie("touch", STAR, (2, 5), (3, 8), (-1, 5))

    def test_apart(self):
        self.lie("apart", SQUARE, (9, 9), (12, 9), (9, 12))
        self.lie("apart", SQUARE, (BIG, BIG), (BIG, 0), (BIG - 1, 7))
        self.lie("apart", SQUARE, (4 + Fraction(1, BIG), 0), (5, 0), (5, 4))
        self.lie("apart", SQUARE, (4, 4 + Fraction(1, BIG)), (9, 9), (4, 9))

    def test_apart_though_one_reaches_about_or_into_the_other(self):
        self.lie("apart", CUP, (4, 4), (5, 4), (5, 9), (4, 9))
        self.lie("apart", CUP, (-2, -2), (11, -2), (11, 6), (10, 6), (10, -1), (-1, -1), (-1, 6), (-2, 6))

    def test_touch_at_a_corner(self):
        self.lie("touch", SQUARE, (4, 4), (6, 5), (5, 6))
        self.lie("touch", SQUARE, (4, 4), (6, 4), (6, 6))
        self.lie("touch", SQUARE, (4, 2), (6, 1), (6, 3))
        self.lie("touch", SQUARE, (6, 2), (2, 6), (6, 6))
        self.lie("touch", STAR, (3, 2), (4, -1), (2, -1))

    def test_touch_at_a_part_of_a_side(self):
        self.lie("touch", SQUARE, (4, 1), (4, 3), (6, 2))
        self.lie("touch", SQUARE, (4, 0), (8, 0), (8, 4), (4, 4))
        self.lie("touch", SQUARE, (4, 2), (8, 2), (8, 6), (4, 6))
        self.lie("touch", SQUARE, (4, -2), (8, -2), (8, 6), (4, 6))
        self.lie("touch", SQUARE, (4, 4), (4, 7), (1, 7))
        self.lie("touch", CUP, (3, 3), (6, 3), (5, 5))
        self.lie("touch", CUP, (3, 3), (6, 3), (6, 9), (3, 9))

    def test_on_one_line_but_apart(self):
        self.lie("apart", SQUARE, (4, 5), (4, 7), (6, 6))
        self.lie("apart", SQUARE, (5, 0), (7, 0), (6, -1))

    def test_cross_through_sides(self):
        self.lie("cross", SQUARE, (2, 2), (6, 2), (6, 6), (2, 6))
        self.lie("cross", SQUARE, (1, -1), (3, -1), (3, 5), (1, 5))
        self.lie("cross", SQUARE, (-1, 1), (2, -3), (2, 9))
        self.lie("cross", SQUARE, (2, 2), (3, 2), (9, 9))
        self.lie("cross", STAR, (1, 1), (5, 1), (4, 7))

    def test_cross_through_corners_alone(self):
        self.lie("cross", SQUARE, (0, 0), (6, -2), (4, 4))
        self.lie("cross", SQUARE, (0, 0), (4, 4), (6, 0))
        self.lie("cross", SQUARE, (-1, -1), (5, 5), (-1, 5))
        self.lie("cross", pts((0, 0), (2, 1), (4, 0), (3, 2), (4, 4), (2, 3), (0, 4), (1, 2)),
                 (2, 0), (3, 2), (2, 4), (1, 2))

    def test_cross_with_a_common_part_of_the_rim(self):
        self.lie("cross", SQUARE, (2, 0), (6, 0), (6, 4), (2, 4))
        self.lie("cross", SQUARE, (0, 0), (4, 0), (2, 9))
        self.lie("cross", SQUARE, (0, 1), (4, 1), (4, 5), (0, 5))
        self.lie("cross", CUP, (0, 3), (9, 3), (9, 6), (0, 6))

    def test_cross_through_the_inside_of_a_ring_that_is_not_convex(self):
        self.lie("cross", CUP, (-1, 4), (10, 4), (10, 5), (-1, 5))
        self.lie("cross", CUP, (1, 4), (8, 4), (8, 5), (1, 5))
        self.lie("cross", CUP, (4, 2), (5, 2), (5, 9), (4, 9))
        self.lie("cross", CUP, (3, 2), (6, 2), (6, 6), (3, 6))

    def test_against_the_patches_of_the_ground(self):
        chance = random.Random(32)
        found = {}
        while sum(found.values()) < 600:
            span = chance.choice((2, 3, 4, 6))
            pair = [
                pts(*((chance.randint(0, span), chance.randint(0, span)) for _ in range(chance.randint(3, 6))))
                for _ in range(2)
            ]
            if not all(map(is_ring, pair)):
                continue
            word = held_by_the_patches(plain(pair[0]), plain(pair[1]))
            self.assertEqual(held(*pair), word, pair)
            self.assertEqual(held(*pair[::-1]), OTHER_WAY[word], pair)
            found[word] = found.get(word, 0) + 1
        for word in ("in", "holds", "apart", "touch", "cross"):
            self.assertGreater(found[word], 4, found)

    def test_with_fractions_against_the_patches(self):
        chance = random.Random(33)
        many = 0
        while many < 100:
            pair = [
                pts(*(
                    (Fraction(chance.randint(-20, 20), chance.randint(1, 7)), Fraction(chance.randint(-20, 20), 6))
                    for _ in range(chance.randint(3, 6))
                ))
                for _ in range(2)
            ]
            if all(map(is_ring, pair)):
                self.assertEqual(held(*pair), held_by_the_patches(plain(pair[0]), plain(pair[1])), pair)
                many += 1

    def test_twelve_corners_each(self):
        comb = pts((0, 0), (11, 0), (11, 9), (10, 9), (10, 1), (6, 1), (6, 9), (5, 9), (5, 1), (1, 1), (1, 9), (0, 9))
        turned = tuple((y, x) for x, y in comb)
        self.assertEqual(held(comb, turned), held_by_the_patches(plain(comb), plain(turned)))
        self.assertEqual(held(comb, turned), "cross")
        between = pts((2, 2), (4, 2), (4, 12), (7, 12), (7, 2), (9, 2), (9, 13), (2, 13))
        self.assertEqual(held(comb, between), "apart")

    def test_numbers_of_30_figures(self):
        ring = pts((0, 0), (BIG, Fraction(1, BIG)), (Fraction(1, BIG - 2), BIG - 4))
        self.assertEqual(held(ring, ring[::-1]), "same")
        self.assertEqual(held(ring, pts((0, 0), (BIG, 0), (Fraction(1, BIG - 2), BIG - 4))), "cross")
        self.assertEqual(held(ring, pts((0, 0), (BIG, 0), (BIG, 1), (Fraction(1, BIG - 2), BIG - 4))), "in")
        self.assertEqual(held(ring, pts((0, 0), (BIG, Fraction(1, BIG)), (BIG, Fraction(-1, BIG)))), "touch")

    def test_wrong_ones(self):
        for thing in [list(SQUARE), SQUARE[:2], pts((0, 0), (4, 4), (4, 0), (0, 4)), (), *ANYTHING, *OUTLANDISH]:
            for handed in ((thing, SQUARE), (SQUARE, thing), (thing, thing)):
                with self.assertRaises(WhereError) as refusal:
                    held(*handed)
                self.assertIs(type(refusal.exception), NoRing)


def is_between_others(point, others):
    """Whether a point lies in a triangle, or on the way, of others that are unlike it."""
    def side(a, b, c):
        return (b[0] - a[0]) * (c[1] - a[1]) - (b[1] - a[1]) * (c[0] - a[0])

    for a, b in itertools.combinations(others, 2):
        if side(a, b, point) == 0 and min(a, b) <= point <= max(a, b):
            return True
    for a, b, c in itertools.combinations(others, 3):
        worths = side(a, b, point), side(b, c, point), side(c, a, point)
        if side(a, b, c) and (min(worths) >= 0 or max(worths) <= 0):
            return True
    return False


class Hull(unittest.TestCase):
    def test_a_triangle_from_its_least_corner_to_the_left(self):
        for points in itertools.permutations(pts((0, 1), (3, 0), (2, 4))):
            self.assertEqual(hull(points), pts((0, 1), (3, 0), (2, 4)))

    def test_the_least_corner_is_the_one_with_the_least_x_then_y(self):
        self.assertEqual(hull(SQUARE[::-1]), SQUARE)
        self.assertEqual(hull(pts((0, 5), (4, -9), (0, 2))), pts((0, 2), (4, -9), (0, 5)))
        self.assertEqual(hull(pts((2, 0), ("1/2", 7), ("2/3", 9))), pts(("1/2", 7), (2, 0), ("2/3", 9)))
        self.assertEqual(hull(pts(("-1/2", 0), ("-2/3", 7), ("2/3", 9))), pts(("-2/3", 7), ("-1/2", 0), ("2/3", 9)))

    def test_points_within_and_on_a_side_are_no_corners(self):
        self.assertEqual(hull(SQUARE + pts((2, 2), (1, 3), (2, 0), (4, 1), (3, 4), (0, 3), (1, 0), (3, 0))), SQUARE)

    def test_some_alike(self):
        self.assertEqual(hull(SQUARE * 3), SQUARE)
        self.assertEqual(hull(pts((0, 0), (0, 0), (4, 0), (4, 0), (0, 4), (0, 4))), pts((0, 0), (4, 0), (0, 4)))
        self.assertEqual(hull(pts((4, 0), (0, 4), (0, 0), (2, 2), (0, 0), (2, 2))), pts((0, 0), (4, 0), (0, 4)))

    def test_none_where_all_lie_on_a_line(self):
        self.assertIsNone(hull(pts((1, 1))))
        self.assertIsNone(hull(pts((1, 1), (1, 1))))
        self.assertIsNone(hull(pts((1, 1), (2, 5))))
        self.assertIsNone(hull(pts((2, 5), (1, 1), (2, 5), (1, 1), (1, 1))))
        self.assertIsNone(hull(pts(*((x, 2 * x + 1) for x in range(12)))))
        self.assertIsNone(hull(pts((0, 0), (0, 5), (0, -3))))
        self.assertIsNone(hull(pts((3, 0), (1, 0), (2, 0), ("1/7", 0))))
        self.assertIsNone(hull(pts((1, 1)) * 12))

    def test_hardly_off_the_line(self):
        little = Fraction(1, BIG)
        self.assertEqual(hull(pts((0, 0), (1, little), (2, 0))), pts((0, 0), (2, 0), (1, little)))
        self.assertEqual(hull(pts((0, 0), (1, -little), (2, 0))), pts((0, 0), (1, -little), (2, 0)))

    def test_one_to_twelve(self):
        for many in range(3, 13):
            points = tuple(pt(at, at * at) for at in range(many))
            self.assertEqual(hull(points[::-1]), points)
        for points in ((), tuple(pt(at, at * at) for at in range(13)), pts((1, 1)) * 13):
            with self.assertRaises(NoPoints):
                hull(points)

    def test_against_the_words(self):
        chance = random.Random(34)
        for _ in range(150):
            span = chance.choice((2, 4, 9))
            points = [(Fraction(chance.randint(0, span)), Fraction(chance.randint(0, span), 3))
                      for _ in range(chance.randint(1, 12))]
            corners = {point for point in points if not is_between_others(point, [p for p in points if p != point])}
            told = hull(pts(*points))
            if len(corners) < 3:
                self.assertIsNone(told, points)
                continue
            self.assertEqual({xy(corner) for corner in told}, corners, points)
            self.assertEqual(len(told), len(corners))
            self.assertIs(is_ring(told), True)
            self.assertEqual(sense(told), 1)
            self.assertEqual(xy(told[0]), min(corners))

    def test_the_hull_of_a_ring_holds_it(self):
        for ring in (CUP, STAR):
            self.assertEqual(held(hull(ring), ring), "holds")
            self.assertEqual(held(hull(ring), hull(hull(ring))), "same")
            self.assertEqual(hull(hull(ring)), hull(ring))
        self.assertEqual(held(hull(SQUARE), SQUARE), "same")

    def test_wrong_ones(self):
        point = pt(1, 2)
        nearly = [
            [point], list(SQUARE), point, (point, None), (point, ((2, 4), (0, 1))), (point, [(0, 1), (0, 1)]),
            (point, ((True, 1), (0, 1))), ((point,),), {0: point}, {point: point}, (), None,
        ]
        for thing in [*nearly, *ANYTHING, *OUTLANDISH]:
            with self.assertRaises(WhereError) as refusal:
                hull(thing)
            self.assertIs(type(refusal.exception), NoPoints)

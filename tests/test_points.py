"""points: [10] and [11]."""

import random
import unittest
from fractions import Fraction

from onewhere.points import boxwise, is_point, squared, streetwise, turn
from tests.things import ANYTHING, BIG, BIG_ODD, OUTLANDISH, fr, pt, val, xy

ORIGIN = pt(0, 0)


class IsPoint(unittest.TestCase):
    def test_points(self):
        for x in ((0, 1), (1, 1), (-1, 1), (1, 2), (-7, 2), (BIG, 1), (1, BIG), (-BIG, BIG_ODD), (63, 64), (64, 1)):
            for y in ((0, 1), (3, 7), (-BIG, 1)):
                self.assertIs(is_point((x, y)), True)
                self.assertIs(is_point((y, x)), True)

    def refused_in_both_places(self, fraction):
        self.assertIs(is_point((fraction, (0, 1))), False, fraction)
        self.assertIs(is_point(((0, 1), fraction)), False, fraction)
        self.assertIs(is_point((fraction, fraction)), False, fraction)

    def test_bottom_is_from_1_on(self):
        for top in (-1, 0, 1, 5):
            for bottom in (0, -1, -2, -BIG):
                self.refused_in_both_places((top, bottom))

    def test_least_terms(self):
        for fraction in ((2, 2), (2, 4), (-2, 4), (6, 9), (10, 5), (-3, 3), (3 * BIG, 9), (10 ** 29, 10 ** 28)):
            self.refused_in_both_places(fraction)

    def test_0_is_written_0_1_alone(self):
        self.assertIs(is_point(((0, 1), (0, 1))), True)
        for fraction in ((0, 2), (0, 7), (0, BIG), (0, 0), (0, -1)):
            self.refused_in_both_places(fraction)

    def test_lists_are_no_tuples(self):
        self.refused_in_both_places([0, 1])
        self.assertIs(is_point([(0, 1), (0, 1)]), False)
        self.assertIs(is_point([[0, 1], [0, 1]]), False)

    def test_whole_numbers_are_no_fractions(self):
        for number in (0, 1, -1, 7, BIG):
            self.refused_in_both_places(number)

    def test_truths_are_no_whole_numbers(self):
        for truth in (True, False):
            self.refused_in_both_places(truth)
            self.refused_in_both_places((truth, 1))
            self.refused_in_both_places((1, truth))
            self.refused_in_both_places((truth, truth))
        self.refused_in_both_places((0, True))

    def test_parts_of_other_kinds(self):
        for part in (None, 1.0, "1", b"1", (1,), [1], {}, Fraction(1), 1j):
            self.refused_in_both_places(part)
            self.refused_in_both_places((part, 1))
            self.refused_in_both_places((1, part))

    def test_too_few_and_too_many_parts(self):
        for thing in ((), ((0, 1),), ((0, 1),) * 3):
            self.assertIs(is_point(thing), False)
        for fraction in ((), (1,), (1, 1, 1), (0, 1, 1)):
            self.refused_in_both_places(fraction)

    def test_of_anything(self):
        for thing in [(), *ANYTHING, *OUTLANDISH]:
            self.assertIs(is_point(thing), False)


class Turn(unittest.TestCase):
    def told(self, worth, one, two, three):
        self.assertEqual(turn(one, two, three), worth)
        self.assertIs(type(turn(one, two, three)), int)

    def test_left_right_neither(self):
        self.told(1, pt(0, 0), pt(1, 0), pt(1, 1))
        self.told(-1, pt(0, 0), pt(1, 0), pt(1, -1))
        self.told(1, pt(0, 0), pt(1, 0), pt(0, 1))
        self.told(-1, pt(0, 0), pt(0, 1), pt(1, 0))
        self.told(0, pt(0, 0), pt(1, 1), pt(2, 2))
        self.told(0, pt(0, 0), pt(2, 2), pt(1, 1))
        self.told(0, pt("1/2", "1/3"), pt(1, "2/3"), pt("3/2", 1))

    def test_just_beside_a_line(self):
        self.told(1, pt(0, 0), pt(1, 1), pt(2, 2 + Fraction(1, BIG)))
        self.told(-1, pt(0, 0), pt(1, 1), pt(2, 2 - Fraction(1, BIG)))

    def test_some_alike(self):
        one, other = pt("1/2", 3), pt(-4, "5/7")
        for three in ((one, one, other), (one, other, one), (other, one, one), (one, one, one)):
            self.told(0, *three)

    def test_numbers_of_30_figures(self):
        far, near = Fraction(BIG, 1), Fraction(1, BIG)
        self.told(1, pt(-far, -far), pt(far, far), pt(far - 1, far))
        self.told(-1, pt(-far, -far), pt(far, far), pt(far, far - 1))
        self.told(0, pt(-far, -far), pt(0, 0), pt(far, far))
        self.told(0, pt(-near, -near), pt(0, 0), pt(far, far))
        self.told(1, pt(0, 0), pt(far, BIG_ODD), pt(far - 1, BIG_ODD))
        self.told(-1, pt(Fraction(BIG_ODD, BIG), 0), pt(Fraction(BIG_ODD, BIG) + 0, 1), pt(1, 0))

    def test_against_reckoning(self):
        chance = random.Random(10)
        for _ in range(2000):
            size = chance.choice((2, 5, 1000, BIG))
            three = [
                pt(*(Fraction(chance.randint(-size, size), chance.randint(1, size)) for _ in range(2)))
                for _ in range(3)
            ]
            (ax, ay), (bx, by), (cx, cy) = map(xy, three)
            cross = (bx - ax) * (cy - by) - (by - ay) * (cx - bx)
            worth = (cross > 0) - (cross < 0)
            self.told(worth, *three)
            self.told(-worth, *reversed(three))
            self.told(worth, *three[1:], three[0])


class Apart(unittest.TestCase):
    def test_ordinary(self):
        one, other = pt(1, 2), pt(4, 6)
        self.assertEqual(squared(one, other), (25, 1))
        self.assertEqual(streetwise(one, other), (7, 1))
        self.assertEqual(boxwise(one, other), (4, 1))

    def test_each_axis_may_be_the_greater_one(self):
        for x, y in ((3, 1), (1, 3), (-3, 1), (1, -3), (-3, -1), (-1, -3), (3, 3), (-3, 3), (3, 0), (0, -3)):
            self.assertEqual(boxwise(ORIGIN, pt(x, y)), (3, 1))
            self.assertEqual(boxwise(pt(x, y), ORIGIN), (3, 1))
            self.assertEqual(streetwise(ORIGIN, pt(x, y)), (abs(x) + abs(y), 1))

    def test_greater_by_size_and_not_by_the_top(self):
        self.assertEqual(boxwise(ORIGIN, pt("3/4", "2/1")), (2, 1))
        self.assertEqual(boxwise(ORIGIN, pt("1/2", "3/7")), (1, 2))
        self.assertEqual(boxwise(ORIGIN, pt("-5/9", "2/3")), (2, 3))

    def test_in_least_terms(self):
        self.assertEqual(squared(pt("1/2", "1/2"), pt(0, 0)), (1, 2))
        self.assertEqual(streetwise(pt("1/2", "1/2"), pt(0, 0)), (1, 1))
        self.assertEqual(streetwise(pt("1/6", "1/3"), pt(0, 0)), (1, 2))
        self.assertEqual(boxwise(pt("5/6", "1/3"), pt("1/3", "1/4")), (1, 2))

    def test_of_one_point_twice(self):
        for point in (ORIGIN, pt("-7/3", "5/11"), pt(BIG, Fraction(1, BIG))):
            for apart in (squared, streetwise, boxwise):
                self.assertEqual(apart(point, point), (0, 1))

    def test_against_reckoning_to_and_fro(self):
        chance = random.Random(11)
        for _ in range(1000):
            size = chance.choice((3, 12, BIG))
            one, other = (
                pt(*(Fraction(chance.randint(-size, size), chance.randint(1, size)) for _ in range(2)))
                for _ in range(2)
            )
            right, up = (abs(a - b) for a, b in zip(xy(one), xy(other)))
            for a, b in ((one, other), (other, one)):
                self.assertEqual(val(squared(a, b)), right ** 2 + up ** 2)
                self.assertEqual(val(streetwise(a, b)), right + up)
                self.assertEqual(val(boxwise(a, b)), max(right, up))

    def test_what_was_told_is_handed_in_again_whatever_its_size(self):
        grown = fr(Fraction(BIG, BIG_ODD) + Fraction(1, 7))
        for _ in range(4):
            grown = squared((grown, grown), pt(Fraction(1, BIG), 0))
        self.assertGreater(grown[0], 10 ** 500)
        self.assertEqual(turn(ORIGIN, (grown, grown), pt(1, 1)), 0)
        self.assertEqual(streetwise((grown, (0, 1)), ORIGIN), grown)

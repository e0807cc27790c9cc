"""streets: [70] and [71]."""

import random
from fractions import Fraction

from onewhere.errors import NoDay, NoNumber, NoRows, NoSpot, NoStreet, NoWeb
from onewhere.streets import are_rows, find, later, numbers_at
from onewhere.webs import long_of
from tests.days import (
    STREETS, days_of, found_by_the_words, later_by_the_words, numbers_by_the_words, rows_clash, some_row, some_rows,
)
from tests.roads import some_web
from tests.things import ANYTHING, BIG, OUTLANDISH, Prickly, Refusals, fr, pts, val

LITTLE = Fraction(1, BIG)
# Roads as long as 12, 10 and 14.
WEB = (
    pts((0, 0), (12, 0), (12, 10), (0, 8)),
    ((0, 1, (), 2), (1, 2, (), 1), (3, 2, pts((0, 10)), 2)),
)
BARE = (pts((1, 1)), ())


def row(street="oak", road=0, first=1, last=6, step=1, since=5, until=9):
    return (street, road, first, last, step, since, until)


class AreRows(Refusals):
    def no(self, *rows, web=WEB):
        self.assertIs(are_rows(web, rows), False, rows)
        self.refused(NoRows, find, web, rows, "oak", 1, 5)
        self.refused(NoRows, later, web, rows, "oak", 1, 5, 5)
        self.refused(NoRows, numbers_at, web, rows, (0, fr(0)), 5)

    def yes(self, *rows, web=WEB):
        self.assertIs(are_rows(web, rows), True, rows)

    def test_rows(self):
        self.yes()
        self.yes(row())
        self.yes(row("ash"), row("elm"), row("oak"))
        self.assertIs(are_rows(BARE, ()), True)

    def test_at_most_twelve(self):
        many = [row(first=number, last=number) for number in range(1, 15)]
        for count in range(13):
            self.yes(*many[:count])
        for count in (13, 14):
            self.no(*many[:count])

    def test_rising(self):
        one, other, third = row("ash"), row("elm", 1), row("elm", 2, 7, 9)
        self.yes(one, other, third)
        for wrong in ((other, one), (one, third, other), (third, other), (one, one), (one, other, other)):
            self.no(*wrong)

    def test_rising_in_each_part(self):
        least = row("elm", 1, 3, 5, 1, 10, 20)
        for greater in (
            row("oak", 0, 1, 2, 1, 0, 1), row("elm", 2, 1, 2, 1, 0, 1), row("elm", 1, 4, 4, 1, 0, 1),
            row("elm", 1, 3, 7, 1, 0, 1), row("elm", 1, 3, 5, 2, 0, 1), row("elm", 1, 3, 5, 1, 20, 21),
        ):
            self.yes(least, greater)
            self.no(greater, least)

    def test_streets_that_are_no_words(self):
        for street in ("", "Oak", "oaks street", "abcdefghi", "oak1", "o-k", " oak", 1, None, True, ("oak",), ["oak"],
                       b"oak", "\u00f6l", {}, Prickly()):
            self.no(row(street))
            self.no(row("ash"), row(street))
        self.yes(row("a"))
        self.yes(row("abcdefgh"))

    def test_roads_that_there_are_not(self):
        for number in range(3):
            self.yes(row(road=number))
        for number in (3, 4, -1, BIG, True, False, None, "0", (0,), [0], 0.0, Prickly()):
            self.no(row(road=number))
        self.refused(NoRows, find, BARE, (row(),), "oak", 1, 5)
        self.assertIs(are_rows(BARE, (row(),)), False)

    def test_numbers_from_1_to_999(self):
        self.yes(row(first=1, last=1))
        self.yes(row(first=999, last=999))
        self.yes(row(first=1, last=999))
        for first, last in ((0, 6), (-1, 6), (0, 0), (1, 1000), (1000, 1000), (999, 1000), (1000, 999), (-BIG, BIG)):
            self.no(row(first=first, last=last))
        for wrong in (True, None, "1", (1,), [1], 1.0, "", Prickly()):
            self.no(row(first=wrong))
            self.no(row(last=wrong))
            self.no(row(first=wrong, last=wrong))

    def test_the_first_no_more_than_the_last(self):
        for first, last in ((2, 1), (7, 6), (999, 1), (3, 1)):
            for step in (1, 2):
                self.no(row(first=first, last=last, step=step))
        self.yes(row(first=6, last=6))
        self.yes(row(first=6, last=6, step=2))

    def test_steps_of_1_and_2(self):
        for step in (1, 2):
            self.yes(row(first=1, last=5, step=step))
        for step in (0, 3, 4, -1, -2, BIG, True, None, "1", "", (1,), [1], 1.0, 2.0, Prickly()):
            self.no(row(first=1, last=5, step=step))
            self.no(row(first=1, last=1, step=step))
        self.no(row(first=1, last=13, step=3))

    def test_a_whole_number_of_steps(self):
        for first, last in ((1, 2), (1, 6), (2, 3), (2, 999), (998, 999)):
            self.no(row(first=first, last=last, step=2))
            self.yes(row(first=first, last=last, step=1))
        for first, last in ((1, 3), (2, 2), (2, 998), (1, 999)):
            self.yes(row(first=first, last=last, step=2))

    def test_days(self):
        self.yes(row(since=0, until=1))
        self.yes(row(since=0, until=BIG))
        self.yes(row(since=BIG - 1, until=BIG))
        for since, until in ((5, 5), (6, 5), (0, 0), (BIG, 0), (-1, 5), (-2, -1), (-1, 0), (5, -5)):
            self.no(row(since=since, until=until))
        for wrong in (True, False, None, "5", (5,), [5], 5.0, "", Prickly()):
            self.no(row(since=wrong))
            self.no(row(until=wrong))

    def test_other_parts(self):
        whole = row()
        for wrong in (list(whole), whole[:6], whole + (1,), (), None, 0, "oak", {}, (whole,), whole[::-1], Prickly()):
            self.no(wrong)
            self.no(row("ash"), wrong)
            self.no(wrong, row("zoo"))

    def test_a_number_twice_by_rows_of_one_road(self):
        self.no(row(first=1, last=6), row(first=6, last=9))
        self.no(row(first=1, last=6), row(first=3, last=4))
        self.no(row(first=1, last=3), row(first=1, last=6))
        self.yes(row(first=1, last=6), row(first=7, last=9))

    def test_a_number_twice_by_rows_of_two_roads(self):
        self.no(row(road=0), row(road=1))
        self.no(row(road=0, first=4, last=4), row(road=2, first=1, last=9))
        self.no(row(road=0, first=1, last=9), row(road=2, first=4, last=4))
        self.yes(row(road=0), row(road=1, first=7, last=9))
        self.yes(row(road=0, first=7, last=9), row(road=1))

    def test_streets_apart_may_have_one_number(self):
        self.yes(row("elm"), row("oak"))
        self.yes(row("oa"), row("oak"))

    def test_steps_that_meet_and_that_do_not(self):
        self.yes(row(first=1, last=9, step=2), row(first=2, last=8, step=2))
        self.yes(row(first=1, last=9, step=2), row(first=4, last=4))
        self.yes(row(first=1, last=9, step=2), row(first=4, last=4, step=2))
        self.yes(row(first=1, last=5, step=2), row(first=2, last=2), row(first=4, last=4))
        self.no(row(first=1, last=9, step=2), row(first=4, last=5))
        self.no(row(first=1, last=9, step=2), row(first=5, last=5))
        self.no(row(first=1, last=9, step=2), row(first=9, last=9))
        self.no(row(first=1, last=9, step=2), row(first=3, last=13, step=2))
        self.no(row(first=1, last=9, step=1), row(first=2, last=8, step=2))
        self.no(row(first=1, last=9, step=1), row(first=9, last=19, step=2))
        self.yes(row(first=1, last=9, step=2), row(first=11, last=19, step=2))
        self.yes(row(first=1, last=9, step=1), row(first=10, last=20, step=2))

    def test_days_that_meet_and_that_do_not(self):
        for since, until in ((9, 12), (0, 5), (9, 10), (4, 5), (100, BIG)):
            self.yes(*sorted((row(), row(since=since, until=until))))
            self.yes(*sorted((row(), row(road=1, since=since, until=until))))
        for since, until in ((8, 12), (0, 6), (6, 7), (5, 9), (0, BIG), (8, 9), (5, 6), (3, 9), (5, 20)):
            self.no(*sorted((row(), row(road=1, since=since, until=until))))

    def test_a_clash_between_any_two(self):
        rows = [row("oak", 0, 1, 3), row("oak", 1, 4, 6), row("oak", 2, 7, 9)]
        self.yes(*rows)
        for at in range(3):
            for other in range(3):
                if at != other:
                    self.no(*(rows[at][:2] + rows[other][2:] if here == at else rows[here] for here in range(3)))

    def test_no_tuples(self):
        rows = (row("ash"), row("oak"))
        for thing in ([], list(rows), {}, {0: row()}, row(), "", None, 0, True, iter(rows), Prickly()):
            self.assertIs(are_rows(WEB, thing), False)
            self.refused(NoRows, find, WEB, thing, "oak", 1, 5)

    def test_of_anything(self):
        for thing in [*ANYTHING, *OUTLANDISH]:
            self.assertIs(are_rows(WEB, thing), False)
            self.assertIs(are_rows(BARE, thing), False)
        for thing in [(), *ANYTHING, *OUTLANDISH]:
            self.refused(NoWeb, are_rows, thing, ())
            self.refused(NoWeb, are_rows, thing, thing)

    def test_by_chance(self):
        chance = random.Random(70)
        seen = set()
        for _ in range(600):
            rows = tuple(sorted(some_row(chance, WEB) for _ in range(chance.randint(1, 5))))
            clash = any(rows_clash(one, other) for at, one in enumerate(rows) for other in rows[at + 1:])
            self.assertIs(are_rows(WEB, rows), not clash, rows)
            seen.add((len(rows), clash))
        self.assertEqual(len(seen), 9)


ROWS = (
    row("ash", 1, 2, 2, 2, 0, 100),
    row("elm", 0, 11, 17, 2, 5, 9),
    row("oak", 0, 1, 3, 1, 5, 9),
    row("oak", 2, 10, 11, 1, 7, 20),
    row("oak", 2, 10, 13, 1, 0, 7),
)


class Find(Refusals):
    def test_the_stretch_of_each_number(self):
        self.assertEqual(find(WEB, ROWS, "oak", 1, 5), (0, (0, 1), (4, 1)))
        self.assertEqual(find(WEB, ROWS, "oak", 2, 5), (0, (4, 1), (8, 1)))
        self.assertEqual(find(WEB, ROWS, "oak", 3, 5), (0, (8, 1), (12, 1)))

    def test_by_steps_of_2(self):
        self.assertEqual(find(WEB, ROWS, "elm", 11, 6), (0, (0, 1), (3, 1)))
        self.assertEqual(find(WEB, ROWS, "elm", 13, 6), (0, (3, 1), (6, 1)))
        self.assertEqual(find(WEB, ROWS, "elm", 17, 6), (0, (9, 1), (12, 1)))
        for number in (10, 12, 14, 16, 18, 19, 9):
            self.assertIsNone(find(WEB, ROWS, "elm", number, 6))

    def test_one_number_has_it_all(self):
        self.assertEqual(find(WEB, ROWS, "ash", 2, 50), (1, (0, 1), (10, 1)))

    def test_fractions_in_least_terms(self):
        self.assertEqual(find(WEB, ROWS, "oak", 10, 0), (2, (0, 1), (7, 2)))
        self.assertEqual(find(WEB, ROWS, "oak", 12, 0), (2, (7, 1), (21, 2)))
        self.assertEqual(find(WEB, ROWS, "oak", 13, 0), (2, (21, 2), (14, 1)))
        many = (row("a", 1, 1, 999),)
        self.assertEqual(find(WEB, many, "a", 4, 5), (1, (10, 333), (40, 999)))

    def test_on_a_road_whose_long_is_no_whole_number(self):
        web = (pts((0, 0), ("1/3", "1/2")), ((0, 1, (), 2),))
        self.assertEqual(find(web, (row(last=2),), "oak", 2, 5), (0, (5, 12), (5, 6)))

    def test_a_street_along_two_roads(self):
        self.assertEqual(find(WEB, ROWS, "oak", 11, 6), (2, (7, 2), (7, 1)))
        self.assertEqual(find(WEB, ROWS, "oak", 3, 6), (0, (8, 1), (12, 1)))

    def test_from_since_on_ahead_of_until(self):
        for day in (5, 6, 7, 8):
            self.assertEqual(find(WEB, ROWS, "oak", 1, day), (0, (0, 1), (4, 1)))
        for day in (0, 4, 9, 10, BIG):
            self.assertIsNone(find(WEB, ROWS, "oak", 1, day))
        self.assertEqual(find(WEB, ROWS, "ash", 2, 0), (1, (0, 1), (10, 1)))
        self.assertEqual(find(WEB, ROWS, "ash", 2, 99), (1, (0, 1), (10, 1)))
        self.assertIsNone(find(WEB, ROWS, "ash", 2, 100))

    def test_numbered_anew(self):
        self.assertEqual(find(WEB, ROWS, "oak", 11, 6), (2, (7, 2), (7, 1)))
        self.assertEqual(find(WEB, ROWS, "oak", 11, 7), (2, (7, 1), (14, 1)))
        self.assertIsNone(find(WEB, ROWS, "oak", 12, 7))

    def test_a_street_or_a_number_that_there_is_not(self):
        for street, number in (("fir", 1), ("oak", 4), ("oak", 0), ("oak", -1), ("oak", 1000), ("oak", BIG),
                               ("oak", -BIG), ("oa", 1), ("ash", 1), ("ash", 3)):
            self.assertIsNone(find(WEB, ROWS, street, number, 5))
        self.assertIsNone(find(WEB, (), "oak", 1, 5))
        self.assertIsNone(find(BARE, (), "oak", 1, 5))

    def test_streets_numbers_and_days_that_are_none(self):
        for rows in (ROWS, ()):
            for thing in ("", "Oak", "ninechars", "o k", 1, None, True, ["oak"], ("oak",), b"oak", Prickly()):
                self.refused(NoStreet, find, WEB, rows, thing, 1, 5)
                self.refused(NoStreet, find, WEB, rows, thing, None, None)
                self.refused(NoStreet, later, WEB, rows, thing, None, None, None)
            for thing in (True, False, None, "1", (1,), [1], 1.0, (1, 1), {}, Prickly()):
                self.refused(NoNumber, find, WEB, rows, "oak", thing, 5)
                self.refused(NoNumber, find, WEB, rows, "oak", thing, None)
                self.refused(NoNumber, later, WEB, rows, "oak", thing, None, None)
            for thing in (-1, -BIG, True, False, None, "5", (5,), [5], 5.0, {}, Prickly()):
                self.refused(NoDay, find, WEB, rows, "oak", 1, thing)
                self.refused(NoDay, numbers_at, WEB, rows, (0, fr(0)), thing)

    def test_by_chance(self):
        chance = random.Random(71)
        for _ in range(25):
            web = some_web(chance, below=chance.choice((1, 3)))
            rows = some_rows(chance, web)
            self.assertIs(are_rows(web, rows), True)
            for day in range(0, 13, 3):
                for street in STREETS:
                    for number in range(0, 26):
                        told = find(web, rows, street, number, day)
                        expected = found_by_the_words(web, rows, street, number, day)
                        if expected is None:
                            self.assertIsNone(told)
                        else:
                            self.assertEqual((told[0], val(told[1]), val(told[2])), expected)


class NumbersAt(Refusals):
    def told(self, number, far, day, rows=ROWS):
        return numbers_at(WEB, rows, (number, fr(far)), day)

    def test_within_a_stretch(self):
        self.assertEqual(self.told(0, 5, 5), [("elm", 13), ("oak", 2)])
        self.assertEqual(self.told(1, 5, 5), [("ash", 2)])
        self.assertEqual(self.told(2, 5, 5), [("oak", 11)])

    def test_a_stretch_has_its_low_and_not_its_high(self):
        self.assertEqual(self.told(0, 4, 5), [("elm", 13), ("oak", 2)])
        self.assertEqual(self.told(0, 4 - LITTLE, 5), [("elm", 13), ("oak", 1)])
        self.assertEqual(self.told(0, 6, 5), [("elm", 15), ("oak", 2)])
        self.assertEqual(self.told(0, 6 - LITTLE, 5), [("elm", 13), ("oak", 2)])

    def test_the_last_one_has_its_high(self):
        self.assertEqual(self.told(0, 12, 5), [("elm", 17), ("oak", 3)])
        self.assertEqual(self.told(0, 12 - LITTLE, 5), [("elm", 17), ("oak", 3)])
        self.assertEqual(self.told(1, 10, 5), [("ash", 2)])
        self.assertEqual(self.told(2, 14, 5), [("oak", 13)])

    def test_at_the_roads_begin(self):
        self.assertEqual(self.told(0, 0, 5), [("elm", 11), ("oak", 1)])
        self.assertEqual(self.told(1, 0, 5), [("ash", 2)])
        self.assertEqual(self.told(2, 0, 7), [("oak", 10)])

    def test_of_that_day(self):
        for day in (0, 4, 9, BIG):
            self.assertEqual(self.told(0, 5, day), [])
        self.assertEqual(self.told(2, 7, 6), [("oak", 12)])
        self.assertEqual(self.told(2, 7, 7), [("oak", 11)])

    def test_of_that_road_alone(self):
        # All three roads come to the crossings at (12, 0) and (12, 10).
        self.assertEqual(self.told(0, 12, 99), [])
        self.assertEqual(self.told(1, 0, 99), [("ash", 2)])

    def test_several_rows_of_one_street_and_road(self):
        rows = (row(first=1, last=3), row(first=4, last=6), row(first=7, last=7))
        self.assertEqual(self.told(0, 0, 5, rows), [("oak", 1), ("oak", 4), ("oak", 7)])
        self.assertEqual(self.told(0, 8, 5, rows), [("oak", 3), ("oak", 6), ("oak", 7)])
        self.assertEqual(self.told(0, 12, 5, rows), [("oak", 3), ("oak", 6), ("oak", 7)])

    def test_rising_by_number_whatever_the_rows_order(self):
        rows = (row(first=1, last=21, step=2), row(first=2, last=2))
        self.assertEqual(self.told(0, 12, 5, rows), [("oak", 2), ("oak", 21)])

    def test_none(self):
        self.assertEqual(self.told(0, 5, 5, ()), [])
        self.assertEqual(self.told(1, 5, 5, (row(),)), [])

    def test_a_new_list_each_time(self):
        for far in (0, 5):
            told = self.told(0, far, 5)
            before = list(told)
            told.reverse()
            told.append(("a", 1))
            self.assertEqual(self.told(0, far, 5), before)
        self.told(0, 5, 0).append(1)
        self.assertEqual(self.told(0, 5, 0), [])

    def test_spots_that_are_none(self):
        wrong = [(0, fr(13)), (0, fr(12 + LITTLE)), (0, fr(-1)), (0, fr(-LITTLE)), (3, fr(0)), (-1, fr(0)), (0, 0),
                 (True, fr(0)), (0, (2, 2)), (0, (True, 1)), [0, fr(0)], (0,), (0, fr(0), fr(0)), (0, 1.0)]
        for thing in [*wrong, (), *ANYTHING, *OUTLANDISH]:
            for day in (5, None, -1):
                self.refused(NoSpot, numbers_at, WEB, ROWS, thing, day)
        self.refused(NoSpot, numbers_at, BARE, (), (0, fr(0)), 5)

    def test_by_chance(self):
        chance = random.Random(72)
        some = 0
        for _ in range(150):
            web = some_web(chance, below=chance.choice((1, 3)))
            rows = some_rows(chance, web)
            for number in range(len(web[1])):
                far = val(long_of(web, number)) * Fraction(chance.randint(0, 12), 12)
                for day in range(0, 13, 4):
                    expected = numbers_by_the_words(web, rows, number, far, day)
                    self.assertEqual(numbers_at(web, rows, (number, fr(far)), day), expected)
                    some += bool(expected)
        self.assertGreater(some, 100)


# Road 0 is numbered anew by more, then by fewer numbers, then by another street too.
ANEW = (
    row("elm", 0, 50, 51, 1, 30, 40),
    row("oak", 0, 1, 3, 1, 0, 10),
    row("oak", 0, 1, 2, 1, 20, 40),
    row("oak", 0, 1, 6, 1, 10, 20),
)
ANEW = tuple(sorted(ANEW))


class Later(Refusals):
    def told(self, number, day, later_day, street="oak"):
        return later(WEB, ANEW, street, number, day, later_day)

    def test_one_that_stays(self):
        for number in (1, 2, 3):
            for day, later_day in ((0, 9), (3, 4), (3, 3), (9, 9)):
                self.assertEqual(self.told(number, day, later_day), [("oak", number)])

    def test_by_more_numbers(self):
        # Middles at 2, 6 and 10 of 12; numbers meet at each 2.
        self.assertEqual(self.told(1, 0, 10), [("oak", 2)])
        self.assertEqual(self.told(2, 0, 10), [("oak", 4)])
        self.assertEqual(self.told(3, 0, 19), [("oak", 6)])

    def test_by_fewer_numbers(self):
        self.assertEqual([self.told(number, 10, 20) for number in range(1, 7)],
                         [[("oak", 1)]] * 3 + [[("oak", 2)]] * 3)

    def test_the_middle_just_where_two_numbers_meet(self):
        # The middle of the second of three is 6, where the two halves meet: the one whose low it is.
        self.assertEqual(self.told(2, 0, 20), [("oak", 2)])
        self.assertEqual(self.told(1, 0, 20), [("oak", 1)])

    def test_over_another_street_along_the_same_road(self):
        self.assertEqual(self.told(1, 10, 30), [("elm", 50), ("oak", 1)])
        self.assertEqual(self.told(6, 10, 39), [("elm", 51), ("oak", 2)])
        self.assertEqual(self.told(51, 30, 35, "elm"), [("elm", 51), ("oak", 2)])

    def test_the_same_day(self):
        self.assertEqual(self.told(1, 30, 30), [("elm", 50), ("oak", 1)])
        self.assertEqual(self.told(3, 0, 0), [("oak", 3)])

    def test_where_it_was_not_there(self):
        self.assertEqual(self.told(4, 0, 10), [])
        self.assertEqual(self.told(50, 10, 30, "elm"), [])
        self.assertEqual(self.told(1, 40, 40), [])
        self.assertEqual(self.told(1, 0, 10, "fir"), [])
        self.assertEqual(self.told(-1, 0, 10), [])
        self.assertEqual(later(BARE, (), "oak", 1, 0, 1), [])

    def test_where_nothing_is_there_on_the_later_day(self):
        self.assertEqual(self.told(1, 0, 40), [])
        self.assertEqual(self.told(1, 39, BIG), [])

    def test_a_later_day_ahead_of_the_day(self):
        for day, later_day in ((1, 0), (10, 9), (BIG, BIG - 1), (BIG, 0), (40, 39)):
            self.refused(NoDay, later, WEB, ANEW, "oak", 1, day, later_day)
            self.refused(NoDay, later, WEB, (), "fir", 7, day, later_day)

    def test_days_that_are_none(self):
        for thing in (-1, -BIG, True, False, None, "5", (5,), [5], 5.0, {}, Prickly()):
            self.refused(NoDay, later, WEB, ANEW, "oak", 1, thing, 5)
            self.refused(NoDay, later, WEB, ANEW, "oak", 1, 0, thing)
            self.refused(NoDay, later, WEB, ANEW, "oak", 1, thing, thing)

    def test_a_new_list_each_time(self):
        self.told(1, 0, 10).append(None)
        self.assertEqual(self.told(1, 0, 10), [("oak", 2)])
        self.told(4, 0, 10).append(None)
        self.assertEqual(self.told(4, 0, 10), [])

    def test_by_chance(self):
        chance = random.Random(73)
        some = set()
        for _ in range(150):
            web = some_web(chance, below=chance.choice((1, 3)))
            rows = some_rows(chance, web)
            for one in rows:
                day = chance.choice(days_of(one))
                later_day = chance.randint(day, 12)
                for number in range(one[2], one[3] + 2):
                    expected = later_by_the_words(web, rows, one[0], number, day, later_day)
                    self.assertEqual(later(web, rows, one[0], number, day, later_day), expected)
                    some.add(len(expected))
        self.assertGreater(len(some), 2)


class FirstTheWebThenTheRows(Refusals):
    def test_whatever_stands_behind(self):
        for thing in [(), *ANYTHING, *OUTLANDISH]:
            self.refused(NoWeb, find, thing, thing, thing, thing, thing)
            self.refused(NoWeb, numbers_at, thing, ROWS, (0, fr(0)), 5)
            self.refused(NoWeb, later, thing, ROWS, "oak", 1, 5, 5)
        for thing in [*ANYTHING, *OUTLANDISH, (row(road=3),), [row()]]:
            self.refused(NoRows, find, WEB, thing, thing, thing, thing)
            self.refused(NoRows, numbers_at, WEB, thing, thing, thing)
            self.refused(NoRows, later, WEB, thing, thing, thing, thing, thing)

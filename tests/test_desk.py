"""desk: [121]."""

import random

from onewhere.clocks import shown
from onewhere.desk import Desk
from onewhere.errors import (
    NoAtlas, NoDay, NoDeed, NoForm, NoKind, NoLine, NoName, NotThere, NoZones, WhereError,
)
from onewhere.places import against, anchor, lead
from onewhere.routes import least
from onewhere.texts import form_text, fraction_text
from tests.atlas import ATLAS, BARE, GOOD, at
from tests.days import some_zones
from tests.forms import some_atlas, some_form, some_kind
from tests.things import ANYTHING, BIG, OUTLANDISH, Refusals

# West's clocks are put on by an hour at instant 7000, which is in day 4; the land's are a minute behind.
ZONES = (("land", ((0, -1),)), ("west", ((0, 0), (7000, 60))))
# Lines that are some, with their answers, in a desk in which home is `tile 0001` from day 3 on.
ANSWERED = (
    ("where home 2", "none"), ("where home 3", "tile 0001"), ("where nobody 3", "none"), ("where home 0", "none"),
    (f"where home {BIG}", "tile 0001"),
    ("names 2", "none"), ("names 3", "home"), ("names 0", "none"),
    ("lead 5 spot tile 00001", "spot 0 3 1"), ("lead 5 address tile 00001", "address fir 3 1"),
    ("lead 5 region tile 00001", "region west 1"), ("lead 5 tile:0 point ground 1 1/2", "tile - 63/2"),
    ("lead 5 tile:9 tile 00001", "tile 000013000 1/16"), ("lead 5 point:near tile 00001", "point near 0 1/2 0"),
    ("lead 5 point:ground point near -7/2 0", "point ground -4 0 0"), ("lead 4 region spot 0 5", "region east 2"),
    ("lead 0 region spot 0 5", "region west 3"), ("lead 5 spot region east", "spot 4 12 0"),
    ("lead 5 tile:4 address oak 2", "tile 0001 2"),
    ("held 5 point ground 7 2 ; point near 2 1", "one"), ("held 5 tile 0 ; tile 1", "two"),
    ("held 5 tile - ; region west", "open"), ("held 5 address oak 1 ; address oak 3", "two"),
    ("held 5 spot 0 12 ; spot 1 0", "one"),
    ("clock 0 tile 0000", "0 0 0"), ("clock 6999 tile 0000", "4 20 39"), ("clock 7000 tile 0000", "4 21 40"),
    ("clock 0 point ground 50 50", "-1 23 59"), ("clock 1 point ground 50 50", "0 0 0"),
    ("clock 5760 tile 03", "4 0 0"), ("clock 5759 tile 03", "3 23 58"), ("clock 7200 address elm 1", "4 23 59"),
    ("clock 7200 region west", "5 1 0"),
    ("route spot 0 3 ; spot 0 7", "4"), ("route spot 0 7 ; spot 0 3", "4"), ("route spot 0 1/2 ; spot 1 1/3", "71/6"),
    ("route tile - ; tile -", "0"), ("route spot 0 5 ; point near -3/2 1/8", "21/4"),
    ("route spot 4 20 ; spot 0 3", "none"), ("route spot 0 3 ; spot 4 20", "none"),
    ("route address oak 4 ; region west", "32"),
)
# Refusals of lines that are some, on such a desk.
REFUSED = (
    ("put home 2 tile 0", NoDay), ("put a 0 tile 0", NoDay), ("put a 2 region nowhere", NoDay),
    ("put a 3 region nowhere", NoForm), ("put a 9 address elm 1", NoForm), ("put a 3 point other 1 1", NoForm),
    ("put a 3 spot 5 0", NoForm), ("put a 3 spot 0 13", NoForm), ("put a 3 spot 0 -1", NoForm),
    ("put a 3 address oak 0", NoForm),
    ("drop home 2", NoDay), ("drop a 2", NoDay), ("drop a 3", NoName), ("drop nobody 9", NoName),
    ("lead 5 spot region nowhere", NoForm), ("lead 9 spot address elm 1", NoForm), ("lead 5 tile:10 tile 0", NoKind),
    ("lead 5 point:other tile 0", NoKind), ("lead 5 tile:10 region nowhere", NoForm),
    (f"lead 5 tile:{BIG} tile 0", NoKind), ("lead 5 tile:3 point ground -1 0", NotThere),
    ("lead 5 region point ground 64 0", NotThere), ("lead 5 address spot 3 14", NotThere),
    ("lead 5 tile:10 point ground -1 0", NoKind),
    ("held 5 region nowhere ; tile 0", NoForm), ("held 5 tile 0 ; region nowhere", NoForm),
    ("held 0 tile 0 ; region east", NoForm),
    ("clock 0 region east", NoForm), ("clock 0 region nowhere", NoForm), ("clock 12960 address elm 1", NoForm),
    ("clock 5 point ground 64 0", NotThere), ("clock 5 point near -2 0", NotThere),
    ("route region east ; tile 0", NoForm), ("route tile 0 ; region east", NoForm), ("route address elm 1 ; tile 0", NoForm),
)
# Lines that are none, each by one thing.
NO_LINES = (
    "", " ", "what", "Undo", "UNDO", "help me", "put", "put home", "put home 3", "put home 3 ", "put home 3 tile",
    "put home 3 tile 4", "put home 3 tile 0 1", "put Home 3 tile 0", "put ninechars 3 tile 0", "put home -3 tile 0",
    "put home 03 tile 0", "put home +3 tile 0", "put home three tile 0", "put home 3 4 tile 0", "put 3 home tile 0",
    "put home 3  tile 0", "put  home 3 tile 0", "put home  3 tile 0", "put home 3 tile 0 ", " put home 3 tile 0",
    "put home 3 tile  0", "put\thome 3 tile 0", "put home 3 point ground 4/2 1", "put home 3/1 tile 0",
    "put home 3/2 tile 0", "put home 3 none", "put home -0 tile 0", "put home 3 spot -1 0", "put home 3 address oak -1",
    "put home 3 tile 0\n", "put home 3 tile 0;",
    "drop", "drop home", "drop home 3 4", "drop home x", "drop home -1", "drop home 3 ", "drop  home 3", "drop Home 3",
    "drop home 3\n", "drop home 3.0", "drop home 3 tile 0",
    "undo ", " undo", "undo 1", "undo undo", "undo\n", "undo\t", "undo  ",
    "where", "where home", "where home 3 4", "where home x", "where Home 3", "where 3 home", "where home -1", "where home 03",
    "where home 3 ", "where  home 3",
    "names", "names ", "names x", "names 3 4", "names -1", "names 03", "names 3 ", "names  3", "names home", "names 3/2",
    "lead", "lead 5", "lead 5 spot", "lead 5 spot ", "lead 5 what tile 0", "lead 5 tile tile 0", "lead 5 point tile 0",
    "lead 5 tile: tile 0", "lead 5 point: tile 0", "lead 5 tile:x tile 0", "lead 5 tile:-1 tile 0", "lead 5 tile:03 tile 0",
    "lead 5 point:Near tile 0", "lead 5 point:ninechars tile 0", "lead 5 spot: tile 0", "lead 5 spot:1 tile 0",
    "lead 5 region:west tile 0", "lead 5 tile:3:3 tile 0", "lead 5 point:a:b tile 0", "lead 5 point:1 tile 0",
    "lead x spot tile 0", "lead -1 spot tile 0", "lead spot 5 tile 0", "lead 5 spot tile 4", "lead 5 spot tile 0 0",
    "lead 5 Spot tile 0", "lead 5 spot  tile 0", "lead 5  spot tile 0", "lead 5 tile :3 tile 0", "lead 5 tile:3 tile",
    "lead 5 spots tile 0", "lead 5 tile:+3 tile 0", "lead 5 :3 tile 0", "lead 5 address: tile 0",
    "held", "held 5", "held 5 tile 0", "held 5 tile 0 ;", "held 5 tile 0 ; ", "held 5 ; tile 0", "held 5 tile 0; tile 1",
    "held 5 tile 0 ;tile 1", "held 5 tile 0 tile 1", "held 5 tile 0 ; tile 4", "held 5 tile 4 ; tile 0", "held 5 ; ",
    "held 5 tile 0 ; tile 1 ; tile 2", "held x tile 0 ; tile 1", "held tile 0 ; tile 1", "held 5 tile 0  ; tile 1",
    "held 5 tile 0 ;  tile 1", "held 5 tile 0 ; tile 1 ", "held -1 tile 0 ; tile 1", "held 5 tile 0 , tile 1",
    "held 5 tile 0 ; ; tile 1", "held 5 tile 0 ;; tile 1",
    "clock", "clock 5", "clock 5 ", "clock x tile 0", "clock -1 tile 0", "clock 05 tile 0", "clock tile 0", "clock 5 tile 4",
    "clock 5 tile 0 ", "clock 5 6 tile 0", "clock 5  tile 0", "clock 1/2 tile 0",
    "route", "route ", "route tile 0", "route tile 0 ;", "route ; tile 0", "route tile 0 ; tile 4", "route 0 tile 0 ; tile 1",
    "route tile 0 tile 1", "route tile 0 ; tile 1 ; tile 2", "route tile 0; tile 1", "route  tile 0 ; tile 1",
    "route tile 0 ; tile 1 ", "known 3 tile 0", "history home", "tile 0", "ok", "none",
)


def desk_with_home():
    desk = Desk(ATLAS, ZONES)
    desk.say("put home 3 tile 0001")
    return desk


def told(desk):
    """What a desk tells of its book."""
    lines = [f"where {name} {day}" for name in ("a", "b", "home", "work") for day in range(10)]
    return [desk.say(line) for line in lines + [f"names {day}" for day in range(10)]]


class Lines(Refusals):
    def test_put_drop_and_undo(self):
        desk = Desk(ATLAS)
        self.assertEqual(desk.say("put home 3 address oak 2"), "ok")
        self.assertEqual(desk.say("put work 3 point near -7/2 0"), "ok")
        self.assertEqual(desk.say("names 3"), "home work")
        self.assertEqual(desk.say("where work 9"), "point near -7/2 0")
        self.assertEqual(desk.say("drop home 5"), "ok")
        self.assertEqual(desk.say("names 5"), "work")
        self.assertEqual(desk.say("where home 4"), "address oak 2")
        self.assertEqual(desk.say("where home 5"), "none")
        self.assertEqual(desk.say("undo"), "ok")
        self.assertEqual(desk.say("names 5"), "home work")
        self.assertEqual([desk.say("undo"), desk.say("undo")], ["ok", "ok"])
        self.assertEqual(desk.say("names 5"), "none")
        self.refused(NoDeed, desk.say, "undo")

    def test_names_with_blanks_between(self):
        desk = Desk(ATLAS)
        for name in ("work", "a", "home"):
            desk.say(f"put {name} 3 tile -")
        self.assertEqual(desk.say("names 3"), "a home work")
        self.assertEqual(desk.say("where a 3"), "tile -")

    def test_a_form_that_is_none_any_more(self):
        desk = Desk(ATLAS)
        desk.say("put home 5 address elm 1")
        self.assertEqual(desk.say("where home 20"), "address elm 1")
        self.assertEqual(desk.say("names 20"), "home")

    def test_each_line_and_its_answer(self):
        desk = desk_with_home()
        for line, answer in ANSWERED:
            self.assertEqual(desk.say(line), answer, line)
            self.assertIs(type(desk.say(line)), str)
        # Asked again, and by its name.
        for line, answer in ANSWERED:
            self.assertEqual(desk.say(line=line), answer)
        self.assertEqual(desk.say("undo"), "ok")
        self.refused(NoDeed, desk.say, "undo")

    def test_every_form(self):
        desk = Desk(ATLAS)
        for form in GOOD:
            self.assertEqual(desk.say(f"put home 5 {form_text(form)}"), "ok")
            self.assertEqual(desk.say("where home 5"), form_text(form))
            self.assertEqual(desk.say(f"held 5 {form_text(form)} ; {form_text(form)}"), against(ATLAS, 5, form, form))

    def test_zones_left_out_are_none(self):
        for desk in (Desk(ATLAS), Desk(ATLAS, ()), Desk(ATLAS, zones=()), Desk(zones=(), atlas=ATLAS)):
            self.assertEqual(desk.say("clock 7000 tile 0000"), "4 20 40")
            self.assertEqual(desk.say("clock 0 point ground 50 50"), "0 0 0")
        self.assertEqual(Desk(ATLAS, zones=ZONES).say("clock 7000 tile 0000"), "4 21 40")

    def test_the_clock_goes_by_the_instants_day(self):
        # East has ground from day 4 on, to day 7.
        desk = Desk(ATLAS, ZONES)
        self.refused(NoForm, desk.say, "clock 5759 region east")
        self.assertEqual(desk.say("clock 5760 region east"), "4 0 0")
        self.assertEqual(desk.say("clock 11519 region east"), "7 23 59")
        self.refused(NoForm, desk.say, "clock 11520 region east")
        self.assertEqual(desk.say("clock 11520 region north"), "8 0 0")
        # Oak is there to day 9.
        self.assertEqual(desk.say("clock 14399 address oak 1"), "9 23 59")
        self.refused(NoForm, desk.say, "clock 14400 address oak 1")

    def test_a_route_is_as_of_day_0(self):
        desk = Desk(ATLAS)
        # On day 0 west has the tile at the left, too; elm is not there yet.
        self.assertEqual(desk.say("route region west ; spot 0 2"), "0")
        self.refused(NoForm, desk.say, "route address elm 1 ; spot 0 2")
        self.refused(NoForm, desk.say, "route spot 0 2 ; region north")
        desk.say("put a 5 address elm 1")
        self.refused(NoForm, desk.say, "route address elm 1 ; spot 0 2")

    def test_the_first_form_of_a_route_is_looked_at_first(self):
        desk = Desk(BARE)
        self.refused(NotThere, desk.say, "route tile 0 ; tile 0")
        self.refused(NotThere, desk.say, "route tile 0 ; region nowhere")
        self.refused(NoForm, desk.say, "route region nowhere ; tile 0")

    def test_numbers_of_thirty_figures(self):
        desk = Desk(ATLAS, ZONES)
        self.assertEqual(desk.say(f"put home {BIG} point ground {BIG} -1/{BIG}"), "ok")
        self.assertEqual(desk.say(f"where home {BIG}"), f"point ground {BIG} -1/{BIG}")
        self.assertEqual(desk.say(f"clock {BIG} tile 0"), f"{BIG // 1440} {BIG % 1440 // 60} {BIG % 60}")
        self.assertEqual(desk.say(f"lead 5 point:near point ground {BIG} 0"), f"point near {(BIG - 3) // 2} 0 0")

    def test_by_chance(self):
        chance = random.Random(121)
        for _ in range(40):
            atlas, zones = some_atlas(chance), some_zones(chance)
            desk = Desk(atlas, zones)
            for _ in range(5):
                instant = chance.randrange(12 * 1440)
                day = instant // 1440
                one, other, kind = some_form(chance, atlas, day), some_form(chance, atlas, day), some_kind(chance, atlas)
                kind_text = kind if isinstance(kind, str) else f"{kind[0]}:{kind[1]}"
                self.same(desk, f"held {day} {form_text(one)} ; {form_text(other)}",
                          lambda: against(atlas, day, one, other))
                self.same(desk, f"lead {day} {kind_text} {form_text(one)}",
                          lambda: " ".join((form_text(lead(atlas, day, one, kind)[0]),
                                            fraction_text(lead(atlas, day, one, kind)[1]))))
                self.same(desk, f"clock {instant} {form_text(one)}",
                          lambda: "{} {} {}".format(*shown(atlas[3], zones, anchor(atlas, day, one), instant)))
                self.same(desk, f"route {form_text(one)} ; {form_text(other)}",
                          lambda: self.route(atlas, one, other))

    def route(self, atlas, one, other):
        start, goal = (lead(atlas, 0, form, "spot")[0][1:] for form in (one, other))
        long = least(atlas[1], start, goal)
        return "none" if long is None else fraction_text(long)

    def same(self, desk, line, ask):
        """The desk answers, or refuses, as the function does."""
        try:
            expected = ask()
        except WhereError as refusal:
            self.refused(type(refusal), desk.say, line)
        else:
            self.assertEqual(desk.say(line), expected)


class Refused(Refusals):
    def setUp(self):
        self.desk = desk_with_home()
        self.before = told(self.desk)

    def tearDown(self):
        """What is refused changes nothing."""
        self.assertEqual(told(self.desk), self.before)
        self.desk.say("undo")
        self.refused(NoDeed, self.desk.say, "undo")

    def test_lines_that_are_none(self):
        for line in NO_LINES:
            self.refused(NoLine, self.desk.say, line)

    def test_a_blank_more_anywhere(self):
        for line in [line for line, _ in ANSWERED] + ["undo", "put a 5 tile 0", "drop home 5"]:
            places = [0, len(line)] + [place for place, sign in enumerate(line) if sign == " "]
            for place in places:
                for more in " \t\n":
                    self.refused(NoLine, self.desk.say, line[:place] + more + line[place:])
            self.refused(NoLine, self.desk.say, line + " x")
            self.refused(NoLine, self.desk.say, line + " ;")
            self.refused(NoLine, self.desk.say, line.upper())

    def test_a_word_fewer(self):
        for line in [line for line, _ in ANSWERED] + ["undo", "put a 5 tile 0", "drop home 5"]:
            words = line.split(" ")
            for place in range(len(words)):
                self.refused(NoLine, self.desk.say, " ".join(words[:place] + words[place + 1:]))

    def test_of_anything(self):
        for thing in [*ANYTHING, *OUTLANDISH, b"undo", ["undo"], ("undo",), {"undo": 1}]:
            self.refused(NoLine, self.desk.say, thing)
        for line in ("undo" * 400, "put " * 500, "x " * 1000, "names " + "9" * 1900 + "x", ";" * 2000, " ; " * 600,
                     "held 5 " + "tile 0 ; " * 200, "a" * 2000, "~" * 2000, "lead 5 tile:" + "3" * 1900):
            self.refused(NoLine, self.desk.say, line)

    def test_each_refusal_that_a_line_may_have(self):
        for line, refusal in REFUSED:
            self.refused(refusal, self.desk.say, line)

    def test_no_line_goes_ahead_of_all_else(self):
        for line in ("put Home 2 region nowhere", "put home 2 tile 4", "drop Nobody 2", "lead 5 tile:x region nowhere",
                     "held 5 region nowhere ; tile 4", "clock x region nowhere", "route region nowhere ; tile 4",
                     "lead 5 tile:10 tile 4", "where Nobody x"):
            self.refused(NoLine, self.desk.say, line)


class Desks(Refusals):
    def test_two_desks_know_nothing_of_one_another(self):
        one, other = Desk(ATLAS, ZONES), Desk(ATLAS)
        one.say("put home 3 tile 0")
        self.assertEqual(other.say("names 3"), "none")
        self.refused(NoDeed, other.say, "undo")
        other.say("put work 1 tile 1")
        self.assertEqual(one.say("names 3"), "home")
        self.assertEqual(one.say("clock 7000 tile 0000"), "4 21 40")
        self.assertEqual(other.say("clock 7000 tile 0000"), "4 20 40")

    def test_no_atlas_then_no_zones(self):
        for thing in [None, ATLAS[:3], list(ATLAS), *ANYTHING, *OUTLANDISH]:
            self.refused(NoAtlas, Desk, thing)
            self.refused(NoAtlas, Desk, thing, None)
            self.refused(NoAtlas, Desk, thing, ZONES)
        for thing in [None, [], list(ZONES), ZONES[::-1], (("land", ((1, 0),)),), *ANYTHING, *OUTLANDISH]:
            self.refused(NoZones, Desk, ATLAS, thing)
            self.refused(NoZones, Desk, zones=thing, atlas=ATLAS)

    def test_a_desk_says_what_its_book_does(self):
        desk = Desk(ATLAS)
        self.assertEqual(desk.say("put home 3 " + form_text(at(1, "1/2"))), "ok")
        self.assertEqual(desk.say("where home 3"), "point ground 1 1/2")

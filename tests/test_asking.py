"""[2]: what holds of every function: refusals, their order, names of arguments, nothing changed."""

import copy
import inspect
import itertools
import unittest

from onewhere import clocks, errors, frames, places, points, regions, rings, routes, sayings, streets, texts, tiles, webs
from onewhere.books import Book
from onewhere.desk import Desk
from onewhere.errors import (
    NoAtlas, NoChain, NoClosed, NoDay, NoDepth, NoForm, NoFrame, NoFrames, NoInstant, NoKind, NoMap, NoMoves, NoName,
    NoNumber, NoPoint, NoPoints, NoRegion, NoRing, NoRoad, NoRows, NoSpot, NoStreet, NoTelling, NoText, NoTile, NoTiles,
    NotThere, NoWeb, NoZones,
)
from tests.things import ANYTHING, BIG, OUTLANDISH, Refusals, fr, pt, pts, way

POINT = (pt(1, "1/2"), NoPoint)
MAP = (way(0, -1, 1, 0, 3, "1/2"), NoMap)
FRAMES = ((("inner", "outer", way(2, 1, 0, 1, 0, 0)), ("outer", "ground", way(1, 0, 0, -1, 5, 5))), NoFrames)
ONE = ("inner", NoFrame)
OTHER = ("ground", NoFrame)
RING = (pts((0, 0), (4, 0), (4, 4), (1, 3)), NoRing)
CODE = ("0123", NoTile)
DEPTH = (3, NoDepth)
CODES = (("01", "02", "1"), NoTiles)
WEB = ((pts((0, 0), (8, 0), (8, 8)), ((0, 1, (), 2), (1, 2, pts((9, 9)), 1), (2, 0, (), 2))), NoWeb)
ROAD = (2, NoRoad)
START = ((0, fr("7/2")), NoSpot)
GOAL = ((2, fr(5)), NoSpot)
CLOSED = ((1,), NoClosed)
LEGS = (((0, fr("7/2"), fr(0)), (2, fr(16), fr(5))), None)
ROWS = ((("elm", 2, 1, 9, 2, 0, 7), ("oak", 0, 1, 4, 1, 3, 9), ("oak", 2, 5, 6, 1, 3, 9)), NoRows)
STREET = ("oak", NoStreet)
NUMBER = (5, NoNumber)
DAY = (4, NoDay)
LATER_DAY = (6, NoDay)
MOVES = (((0, ("0", "12"), "west"), (5, ("02",), "east"), (5, ("3",), "west")), NoMoves)
REGION = ("west", NoRegion)
ZONES = ((("east", ((0, -60),)), ("west", ((0, 0), (90, 30), (150, 0)))), NoZones)
INSTANT = (95, NoInstant)
TELLING = ((0, 2, 31), NoTelling)
OTHER_POINT = (pt(40, 1), NoPoint)
ATLAS = ((FRAMES[0], WEB[0], ROWS[0], MOVES[0]), NoAtlas)
FORM = (("address", "oak", 5), NoForm)
OTHER_FORM = (("region", "west"), NoForm)
KIND = (("tile", 3), NoKind)
KINDS = ((("tile", 3), "region", ("point", "inner")), NoChain)
NAME = ("home", NoName)
TEXT = ("7/2", NoText)
FORM_TEXT = ("spot 3 7/2", NoText)


def book_with_deeds():
    book = Book(ATLAS[0])
    book.put("home", FORM[0], 3)
    book.put("work", OTHER_FORM[0], 4)
    return book


BOOK = book_with_deeds()

# Each function with its arguments by the names told: something good, and the refusal of what is not.
REFUSING = (
    (points.turn, {"one": POINT, "two": (pt(2, 2), NoPoint), "three": (pt(0, 3), NoPoint)}),
    (points.squared, {"one": POINT, "other": (pt(2, 5), NoPoint)}),
    (points.streetwise, {"one": POINT, "other": (pt(2, 5), NoPoint)}),
    (points.boxwise, {"one": POINT, "other": (pt(2, 5), NoPoint)}),
    (frames.led, {"way": MAP, "point": POINT}),
    (frames.joined, {"way": MAP, "other": (way(1, 1, 0, 1, 0, 0), NoMap)}),
    (frames.back, {"way": MAP}),
    (frames.kept, {"way": MAP}),
    (frames.between, {"frames": FRAMES, "one": ONE, "other": OTHER}),
    (frames.told_in, {"frames": FRAMES, "one": ONE, "other": OTHER, "point": POINT}),
    (rings.area, {"ring": RING}),
    (rings.sense, {"ring": RING}),
    (rings.lies, {"ring": RING, "point": POINT}),
    (rings.wound, {"ring": RING, "point": POINT}),
    (rings.nearest, {"ring": RING, "point": POINT}),
    (sayings.held, {"ring": RING, "other": (pts((3, 3), (9, 9), (8, 9)), NoRing)}),
    (sayings.hull, {"points": (RING[0] + pts((2, 1)), NoPoints)}),
    (tiles.box, {"code": CODE}),
    (tiles.tile_of, {"point": POINT, "depth": DEPTH}),
    (tiles.neighbours, {"code": CODE}),
    (tiles.merged, {"codes": CODES}),
    (tiles.common, {"codes": CODES, "other": (("0", "13"), NoTiles)}),
    (tiles.without, {"codes": CODES, "other": (("012", "2"), NoTiles)}),
    (tiles.cover, {"ring": RING, "depth": DEPTH}),
    (webs.long_of, {"web": WEB, "road": ROAD}),
    (webs.point_at, {"web": WEB, "spot": GOAL}),
    (webs.nearest_spot, {"web": WEB, "point": POINT}),
    (routes.least, {"web": WEB, "start": START, "goal": GOAL, "closed": CLOSED}),
    (routes.route, {"web": WEB, "start": START, "goal": GOAL, "closed": CLOSED}),
    (routes.prices, {"web": WEB, "start": START, "closed": CLOSED}),
    (routes.is_route, {"web": WEB, "start": START, "goal": GOAL, "thing": LEGS, "closed": CLOSED}),
    (routes.turns, {"web": WEB, "start": START, "goal": GOAL, "thing": LEGS, "closed": CLOSED}),
    (streets.are_rows, {"web": WEB, "thing": (ROWS[0], None)}),
    (streets.find, {"web": WEB, "rows": ROWS, "street": STREET, "number": NUMBER, "day": DAY}),
    (streets.numbers_at, {"web": WEB, "rows": ROWS, "spot": GOAL, "day": DAY}),
    (streets.later, {"web": WEB, "rows": ROWS, "street": STREET, "number": NUMBER, "day": DAY, "later_day": LATER_DAY}),
    (regions.region_at, {"moves": MOVES, "point": POINT, "day": DAY}),
    (regions.ground, {"moves": MOVES, "region": REGION, "day": DAY}),
    (regions.great, {"moves": MOVES, "region": REGION, "day": DAY}),
    (regions.regions, {"moves": MOVES, "day": DAY}),
    (regions.changed, {"moves": MOVES, "day": DAY, "other_day": LATER_DAY}),
    (regions.rim, {"moves": MOVES, "region": REGION, "day": DAY}),
    (clocks.shown, {"moves": MOVES, "zones": ZONES, "point": POINT, "instant": INSTANT}),
    (clocks.instants, {"moves": MOVES, "zones": ZONES, "point": POINT, "telling": TELLING}),
    (clocks.first_instant, {"moves": MOVES, "zones": ZONES, "point": POINT, "telling": TELLING}),
    (clocks.across, {"moves": MOVES, "zones": ZONES, "point": POINT, "other": OTHER_POINT, "telling": TELLING}),
    (places.is_form, {"atlas": ATLAS, "day": DAY, "thing": (FORM[0], None)}),
    (places.meant, {"atlas": ATLAS, "day": DAY, "form": FORM}),
    (places.anchor, {"atlas": ATLAS, "day": DAY, "form": FORM}),
    (places.lead, {"atlas": ATLAS, "day": DAY, "form": FORM, "kind": KIND}),
    (places.against, {"atlas": ATLAS, "day": DAY, "form": FORM, "other": OTHER_FORM}),
    (places.both_mean, {"atlas": ATLAS, "day": DAY, "form": FORM, "other": OTHER_FORM}),
    (places.chain, {"atlas": ATLAS, "day": DAY, "form": FORM, "kinds": KINDS}),
    (texts.form_text, {"form": FORM}),
    (texts.read_fraction, {"text": TEXT}),
    (texts.read_form, {"text": FORM_TEXT}),
    (BOOK.where, {"name": NAME, "day": DAY}),
    (BOOK.names, {"day": DAY}),
    (BOOK.known, {"form": FORM, "day": DAY}),
    (BOOK.history, {"name": NAME}),
)
# What makes something anew, or does something, so that it has no answer to ask for again.
DOING = (
    (Book, {"atlas": ATLAS}),
    (Desk, {"atlas": ATLAS, "zones": ZONES}),
    (book_with_deeds().put, {"name": NAME, "form": FORM, "day": DAY}),
    (book_with_deeds().drop, {"name": NAME, "day": DAY}),
)
OF_ANYTHING = (
    (points.is_point, POINT[0]), (frames.are_frames, FRAMES[0]), (rings.is_ring, RING[0]), (webs.is_web, WEB[0]),
    (regions.are_moves, MOVES[0]), (clocks.are_zones, ZONES[0]), (places.is_atlas, ATLAS[0]),
)
TOLD = {
    points: "is_point turn squared streetwise boxwise",
    frames: "led joined back kept are_frames between told_in",
    rings: "is_ring area sense lies wound nearest",
    sayings: "held hull",
    tiles: "box tile_of neighbours merged common without cover",
    webs: "is_web long_of point_at nearest_spot",
    routes: "least route prices is_route turns",
    streets: "are_rows find numbers_at later",
    regions: "are_moves region_at ground great regions changed rim",
    clocks: "are_zones shown instants first_instant across",
    places: "is_atlas is_form meant anchor lead against both_mean chain",
    texts: "form_text read_fraction read_form",
    BOOK: "where names known history",
}

# Nearly right, each in one thing only: truths, lists, terms that are not the least.
NEARLY = {
    NoPoint: [((True, 1), (0, 1)), ((1, True), (0, 1)), [(0, 1), (0, 1)], ((0, 1), [0, 1]), ((2, 2), (0, 1)), (1, 1),
              ((0, 1), (1, -1)), ((0, 1), (0, 1), (0, 1)), ((0, 1), (1, 0)), ((0, 1), (0, 3)), RING[0], MAP[0]],
    NoMap: [way(1, 2, 2, 4, 0, 0), list(way(1, 0, 0, 1, 0, 0)), (True, *way(0, 0, 1, 0, 0)), POINT[0], RING[0],
            way(1, 0, 0, 1, 0, 0)[:5] + ((False, 1),)],
    NoFrames: [list(FRAMES[0]), FRAMES[0][::-1], FRAMES[0][:1], FRAMES[0] + FRAMES[0], FRAMES[0][0], POINT[0]],
    NoFrame: ["other", "Inner", "", "inner ", "grounds", ["inner"], ("inner",), FRAMES[0][0], True, 0],
    NoRing: [list(RING[0]), RING[0][:2], RING[0] + RING[0], RING[0][:2] + RING[0][:1:-1] + (pt(2, 0),), POINT[0],
             pts((0, 0), (1, 1), (2, 2)), pts((0, 0), (4, 4), (4, 0), (0, 4)), MAP[0]],
    NoPoints: [list(RING[0]), RING[0] * 4, (RING[0],), RING[0] + (((2, 2), (0, 1)),), (), POINT[0], ((True, 1),) * 2],
    NoTile: ["0" * 10, "4", "01 ", ("0",), ["0", "1"], 0, True, "-"],
    NoDepth: [-1, 10, True, False, "3", (3,), [3], None],
    NoTiles: [list(CODES[0]), CODES[0][::-1], CODES[0] + ("1",), CODES[0] + ("13",), "01", ("0", 1), ("", "0")],
    NoWeb: [list(WEB[0]), WEB[0][::-1], WEB[0][:1], (WEB[0][0], ((0, 0, (), 2),)), (WEB[0][0], ((0, 1, (), True),)),
            ((), ()), (WEB[0][0], ((0, True, (), 2),)), (WEB[0][0], ((0, 1, [], 2),))],
    NoRoad: [3, -1, True, False, "0", (0,), None, GOAL[0]],
    NoSpot: [(3, fr(0)), (2, fr(17)), (2, fr(-1)), (True, fr(5)), [2, fr(5)], (2, (10, 2)), (2, 5), (2, fr(5), fr(5)),
             (2, (5, True))],
    NoClosed: [[1], (1, 0), (1, 1), (3,), (-1,), (True,), 1, (0, 2, 1), None],
    NoRows: [list(ROWS[0]), ROWS[0][::-1], ROWS[0] * 2, (("oak", 3, 1, 4, 1, 3, 9),), (("oak", 0, 1, 4, True, 3, 9),),
             (("oak", 0, 1, 4, 1, 3, 9), ("oak", 2, 4, 6, 1, 3, 9)), (["oak", 0, 1, 4, 1, 3, 9],),
             (("oak", False, 1, 4, 1, 3, 9),), (("oak", 0, True, 4, 1, 3, 9),), (("oak", 0, 1, 4, 1, False, 9),),
             (("oak", 0, 1, 1, 1, 0, True),), (("oak", 0, 1, True, 1, 3, 9),)],
    NoStreet: ["Oak", "", "oak street", ("oak",), ["oak"], 1, True, b"oak"],
    NoNumber: [True, False, "5", (5,), [5], None, 5.0],
    NoDay: [-1, True, False, "4", (4,), [4], None, -BIG],
    NoMoves: [list(MOVES[0]), MOVES[0][::-1], MOVES[0] * 2, ((0, ["0"], "a"),), ((0, (), "a"),), ([0, ("0",), "a"],),
              ((True, ("0",), "a"),), ((0, ("00000",), "a"),), ((0, ("0",), "A"),)],
    NoRegion: ["West", "", "west end", ("west",), ["west"], 1, True, b"west"],
    NoZones: [list(ZONES[0]), ZONES[0][::-1], ZONES[0][:1] * 2, (("a", ((1, 0),)),), (("a", [(0, 0)]),), (("a", ()),),
              (("a", ((0, True),)),), (("a", ((False, 0),)),), (["a", ((0, 0),)],), (("a", ((0, 901),)),)],
    NoInstant: [-1, True, False, "95", (95,), [95], None, -BIG],
    NoAtlas: [list(ATLAS[0]), ATLAS[0][:3], ATLAS[0][::-1], ATLAS[0] + ((),), (FRAMES[0], (WEB[0][0], ()), *ATLAS[0][2:]),
              (None, *ATLAS[0][1:]), (ATLAS[0],), (*ATLAS[0][:3], list(MOVES[0]))],
    NoForm: [["tile", "0"], ("tile", "4"), ("spot", True, fr(0)), ("address", "oak", True), ("region", "West"),
             ("point", "ground", (2, 2), fr(1)), ("tile", "0", "0"), ("form", "west"), "region west", POINT[0]],
    NoKind: ["point", ("tile", 10), ("tile", True), ["tile", 3], ("point", "other"), ("spot",), "Spot", ("tile", 3, 3)],
    NoChain: [[KIND[0]], KIND[0], "spot", ("spot", "point"), ("spot",) * 9, ("spot", ["tile", 3]), (("tile", False),)],
    NoName: ["Home", "", "home again", ("home",), ["home"], 1, True, b"home"],
    NoText: ["3/1", "-0", "+3", " 3", "3 ", "spot 3 4/2", "spot  3 4", "Spot 3 4", ("3",), ["3"], b"3"],
    NoTelling: [(0, 24, 0), (0, 0, 60), (0, True, 0), (False, 0, 0), [0, 0, 0], (0, 0), (0, 0, 0, 0), (0, 0, False)],
}


def in_order_of_looking(arguments):
    """The names of the arguments as they are looked at: closed behind the web, of a book a day ahead of a form, the
    others from the left."""
    names = [name for name in arguments if name != "closed"]
    if "form" in names and "atlas" not in names:
        names = sorted(names, key=["name", "day", "form"].index)
    return names[:1] + ["closed"] + names[1:] if "closed" in arguments else names


def is_so(refusal, thing):
    """Whether a thing out of the common lists happens to be nothing to refuse."""
    if refusal in (NoFrames, NoTiles, NoClosed, NoRows, NoMoves, NoZones):
        return thing == ()
    if refusal in (NoStreet, NoRegion, NoName):
        return isinstance(thing, str) and thing in ("a", "ground")
    if refusal in (NoDay, NoInstant, NoNumber):
        return type(thing) is int and (thing >= 0 or refusal is NoNumber)
    if refusal in (NoDepth, NoRoad):
        return type(thing) is int and thing in (0, 1)
    if refusal is NoTile:
        return thing == ""
    return refusal is NoFrame and isinstance(thing, str) and thing in ("ground", "inner", "outer")


def wrong_things(refusal):
    wild = OUTLANDISH + [thing for thing in [(), *ANYTHING] if not is_so(refusal, thing)]
    return NEARLY[refusal] + wild


def good_ones(arguments):
    return {name: worth for name, (worth, _) in arguments.items()}


class Asking(Refusals):
    def test_every_function_of_the_interface_is_here(self):
        asked = [ask for ask, _ in REFUSING] + [ask for ask, _ in OF_ANYTHING]
        names = [(module, name) for module, row in TOLD.items() for name in row.split()]
        self.assertEqual(len(names), len(asked))
        for module, name in names:
            self.assertIn(getattr(module, name), asked)

    def test_the_arguments_are_those_told(self):
        for ask, arguments in REFUSING:
            told = inspect.signature(ask).parameters
            self.assertEqual(list(told), list(arguments))
            for name, parameter in told.items():
                self.assertIs(parameter.kind is parameter.KEYWORD_ONLY, name == "closed")
                self.assertEqual(parameter.default, () if name == "closed" else parameter.empty)
        for ask, _ in OF_ANYTHING:
            self.assertEqual(list(inspect.signature(ask).parameters), ["thing"])

    def test_the_arguments_of_classes_are_those_told(self):
        for ask, names in (
            (Book, "atlas"), (Book.put, "self name form day"), (Book.drop, "self name day"), (Book.undo, "self"),
            (Book.where, "self name day"), (Book.names, "self day"), (Book.known, "self form day"),
            (Book.history, "self name"), (Desk, "atlas zones"), (Desk.say, "self line"),
            (texts.fraction_text, "fraction"),
        ):
            told = inspect.signature(ask).parameters
            self.assertEqual(" ".join(told), names)
            for name, parameter in told.items():
                self.assertIs(parameter.kind, parameter.POSITIONAL_OR_KEYWORD)
                self.assertEqual(parameter.default, () if name == "zones" else parameter.empty)
        for name in ("put", "drop", "undo", "where", "names", "known", "history"):
            self.assertIn(name, vars(Book))
        self.assertIn("say", vars(Desk))

    def test_by_place_and_by_name(self):
        for ask, arguments in REFUSING:
            good = good_ones(arguments)
            answer = ask(**good)
            for many in range(len(good) + 1 - ("closed" in good)):
                behind = dict(list(good.items())[many:][::-1])
                self.assertEqual(ask(*list(good.values())[:many], **behind), answer)
        for ask, good in OF_ANYTHING:
            self.assertIs(ask(good), True)
            self.assertIs(ask(thing=good), True)

    def test_closed_left_out_is_none_closed(self):
        for ask, arguments in REFUSING:
            good = good_ones(arguments)
            if "closed" in good:
                open_ways = {name: worth for name, worth in good.items() if name != "closed"}
                self.assertEqual(ask(**open_ways), ask(**open_ways, closed=()))
                with self.assertRaises(TypeError):
                    ask(*good.values())

    def test_asked_again(self):
        for ask, arguments in REFUSING:
            good = good_ones(arguments)
            answer = ask(**good)
            with self.assertRaises(errors.WhereError):
                ask(**{name: None for name in good})
            self.assertEqual(ask(**good), answer)
            self.assertEqual(ask(**copy.deepcopy(good)), answer)

    def test_a_list_that_is_told_is_the_askers_own(self):
        for ask, arguments in REFUSING:
            answer = ask(**good_ones(arguments))
            if isinstance(answer, list):
                before = list(answer)
                answer.append("more")
                answer.reverse()
                self.assertEqual(ask(**good_ones(arguments)), before)

    def test_each_argument_is_refused_by_itself(self):
        for ask, arguments in REFUSING + DOING:
            for name, (_, refusal) in arguments.items():
                for thing in wrong_things(refusal) if refusal else ():
                    self.refused(refusal, ask, **{**good_ones(arguments), name: thing})

    def test_the_first_wrong_one_is_refused(self):
        for ask, arguments in REFUSING + DOING:
            names = [name for name in in_order_of_looking(arguments) if arguments[name][1]]
            for wrong in itertools.product((False, True), repeat=len(names)):
                if True not in wrong:
                    continue
                first = arguments[names[wrong.index(True)]][1]
                for pick in range(6):
                    bad = {name: NEARLY[arguments[name][1]][pick] for name, is_bad in zip(names, wrong) if is_bad}
                    self.refused(first, ask, **{**good_ones(arguments), **bad})

    def test_a_point_beyond_the_land_is_refused_behind_what_is_none(self):
        for ask, arguments in REFUSING:
            if ask not in (tiles.tile_of, regions.region_at) and ask.__module__ != "onewhere.clocks":
                continue
            names = list(arguments)
            for name in set(names) & {"point", "other"}:
                behind = {other: None for other in names[names.index(name) + 1:]}
                for handed in (good_ones(arguments), {**good_ones(arguments), **behind}):
                    self.refused(NotThere, ask, **{**handed, name: pt(64, 0)})
                    self.refused(NoPoint, ask, **{**handed, name: ((64, 1), (2, 2))})
                for ahead in names[:names.index(name)]:
                    handed = {**good_ones(arguments), ahead: None, name: pt(64, 0)}
                    self.refused(arguments[ahead][1], ask, **handed)

    def test_of_anything(self):
        for ask, _ in OF_ANYTHING:
            for thing in [*ANYTHING, *OUTLANDISH]:
                self.assertIs(ask(thing), False)
        self.assertIs(points.is_point(()), False)
        self.assertIs(frames.are_frames(()), True)
        self.assertIs(rings.is_ring(()), False)
        self.assertIs(webs.is_web(()), False)
        self.assertIs(regions.are_moves(()), True)
        self.assertIs(clocks.are_zones(()), True)

    def test_of_anything_as_rows(self):
        for thing in [*ANYTHING, *OUTLANDISH]:
            self.assertIs(streets.are_rows(WEB[0], thing), False)
            self.refused(NoWeb, streets.are_rows, thing, thing)
        self.assertIs(streets.are_rows(WEB[0], ()), True)

    def test_of_anything_as_a_form(self):
        for thing in [(), *ANYTHING, *OUTLANDISH]:
            self.assertIs(places.is_form(ATLAS[0], 4, thing), False)
            self.refused(NoAtlas, places.is_form, thing, 4, thing)
            self.refused(NoDay, places.is_form, ATLAS[0], -1, thing)

    def test_of_anything_as_a_line(self):
        desk = Desk(ATLAS[0])
        for thing in [(), *ANYTHING, *OUTLANDISH]:
            self.refused(errors.NoLine, desk.say, thing)

    def test_of_anything_as_a_route(self):
        for thing in [(), *ANYTHING, *OUTLANDISH]:
            self.assertIs(routes.is_route(WEB[0], START[0], GOAL[0], thing), False)
            self.assertIsNone(routes.turns(WEB[0], START[0], GOAL[0], thing))
        # The thing is never refused, whatever it is; the others are.
        for thing in [None, (), *OUTLANDISH]:
            for ask in (routes.is_route, routes.turns):
                handed = {"web": WEB[0], "start": START[0], "goal": GOAL[0], "thing": thing}
                self.refused(NoSpot, ask, **{**handed, "goal": None})
                self.refused(NoClosed, ask, **{**handed, "closed": None})

    def test_truths_are_no_whole_numbers(self):
        self.assertIs(points.is_point(((1, 1), (0, 1))), True)
        for point in (((True, 1), (0, 1)), ((1, True), (0, 1)), ((1, 1), (False, 1)), ((1, 1), (0, True))):
            self.assertIs(points.is_point(point), False)
            self.assertIs(rings.is_ring((point, pt(5, 0), pt(5, 5))), False)
            self.assertIs(frames.are_frames((("a", "ground", (*point, *way(0, 1, 0, 0))),)), False)
            self.assertIs(webs.is_web(((point,), ())), False)
            self.refused(NoPoint, tiles.tile_of, point=point, depth=1)
            self.refused(NoPoints, sayings.hull, points=(point, pt(5, 0), pt(5, 5)))
        for depth in (True, False):
            self.refused(NoDepth, tiles.tile_of, point=pt(1, 1), depth=depth)
            self.refused(NoDepth, tiles.cover, ring=RING[0], depth=depth)
            self.refused(NoRoad, webs.long_of, web=WEB[0], road=depth)
            self.refused(NoSpot, webs.point_at, web=WEB[0], spot=(depth, fr(0)))
            self.refused(NoClosed, routes.prices, web=WEB[0], start=START[0], closed=(depth,))
            self.refused(NoNumber, streets.find, WEB[0], ROWS[0], "oak", depth, 4)
            self.refused(NoDay, streets.find, WEB[0], ROWS[0], "oak", 1, depth)
            self.refused(NoDay, regions.regions, MOVES[0], depth)
            self.refused(NoInstant, clocks.shown, MOVES[0], ZONES[0], pt(1, 1), depth)
            self.refused(NoDay, places.anchor, ATLAS[0], depth, ("tile", ""))
            self.refused(NoForm, places.anchor, ATLAS[0], 4, ("spot", depth, fr(0)))
            self.refused(NoKind, places.lead, ATLAS[0], 4, ("tile", ""), ("tile", depth))
            self.refused(NoForm, texts.form_text, ("address", "oak", depth))
            self.refused(NoPoint, texts.fraction_text, (depth, 1))
            self.refused(NoDay, BOOK.names, depth)
            for telling in ((depth, 0, 0), (0, depth, 0), (0, 0, depth)):
                self.refused(NoTelling, clocks.instants, MOVES[0], ZONES[0], pt(1, 1), telling)

    def test_nothing_handed_in_is_changed(self):
        for ask, _ in OF_ANYTHING:
            for thing in ANYTHING:
                before = copy.deepcopy(thing)
                ask(thing)
                self.assertEqual(thing, before)
        for ask, arguments in REFUSING:
            for thing in ANYTHING:
                if isinstance(thing, (list, dict)):
                    before = copy.deepcopy(thing)
                    first = arguments[in_order_of_looking(arguments)[0]][1]
                    self.refused(first, ask, **{name: thing for name in arguments})
                    self.assertEqual(thing, before)
        for ask, ahead in ((routes.is_route, (WEB[0], START[0], GOAL[0])), (routes.turns, (WEB[0], START[0], GOAL[0])),
                           (streets.are_rows, (WEB[0],)), (places.is_form, (ATLAS[0], 4))):
            for thing in ANYTHING:
                before = copy.deepcopy(thing)
                ask(*ahead, thing)
                self.assertEqual(thing, before)

    def test_numbers_of_30_figures_everywhere(self):
        big = (BIG, 1)
        small = (1, BIG)
        one, other = (big, small), (small, big)
        self.assertEqual(points.turn(one, other, one), 0)
        self.assertEqual(points.streetwise(one, other), (2 * (BIG * BIG - 1), BIG))
        self.assertEqual(points.boxwise(one, other), (BIG * BIG - 1, BIG))
        whole = (big, small, small, big, big, big)
        self.assertEqual(frames.led(frames.back(whole), frames.led(whole, one)), one)
        ring = (one, other, ((-BIG, 1), (-BIG, 1)))
        self.assertIs(rings.is_ring(ring), True)
        self.assertEqual(rings.lies(ring, one), "on")

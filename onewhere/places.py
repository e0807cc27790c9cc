"""Places: the forms in which they are told, led to and held against one another ([100], [101], [102])."""

from onewhere.errors import NoAtlas, NoChain, NoForm, NoKind, NotThere
from onewhere.exact import check_day, is_number, is_tuple, is_whole, is_word, middle
from onewhere.frames import are_frames, from_ground, has_frame, moved, to_ground
from onewhere.points import box_apart, is_point
from onewhere.regions import are_moves, ground_of, past_of, region_on, tiles_of
from onewhere.sayings import common_point
from onewhere.streets import are_rows_of, numbers_of_spot, stretch_of
from onewhere.tiles import DEEPEST, box_of, common, is_code, middle_of_tile, tile_of, tile_point
from onewhere.webs import is_spot, is_web, least_off, road_part, spot_point

MOST_KINDS = 8


def is_atlas(thing):
    """Whether this is (frames, web, rows, moves), the rows those of that web."""
    if not is_tuple(thing, 4, 4):
        return False
    frames, web, rows, moves = thing
    return are_frames(frames) and is_web(web) and are_rows_of(web, rows) and are_moves(moves)


def check_atlas(thing):
    if not is_atlas(thing):
        raise NoAtlas("this is no atlas: (frames, web, rows, moves), the rows those of that web")


def check_atlas_and_day(atlas, day):
    check_atlas(atlas)
    check_day(day)


def begins_with_text(thing, fewest, most):
    """Whether this is a tuple of so many parts, the first one a text, so that it may be compared with words."""
    return is_tuple(thing, fewest, most) and isinstance(thing[0], str)


def is_form_of(atlas, day, thing):
    """Whether this is a form; atlas and day are known to be such."""
    frames, web, rows, moves = atlas
    if not begins_with_text(thing, 2, 4):
        return False
    match thing:
        case ("point", frame, x, y):
            return has_frame(frames, frame) and is_point((x, y))
        case ("tile", code):
            return is_code(code)
        case ("spot", road, far):
            return is_spot(web, (road, far))
        case ("address", street, number):
            return is_word(street) and is_whole(number) and stretch_of(web, rows, street, number, day) is not None
        case ("region", name):
            return is_word(name) and len(tiles_of(moves, name, day)) > 0
        case _:
            return False


def is_form(atlas, day, thing):
    """Whether this is a form of the atlas on the day."""
    check_atlas_and_day(atlas, day)
    return is_form_of(atlas, day, thing)


def check_form(atlas, day, thing):
    if not is_form_of(atlas, day, thing):
        raise NoForm("this is no form of the atlas on the day")


def meaning_of(atlas, day, form):
    """What a form means; all are known to be such."""
    frames, web, rows, moves = atlas
    match form:
        case ("point", frame, right, up):
            x, y = moved(to_ground(frames, frame), (right, up))
            return "point", x, y
        case ("tile", code):
            return "tiles", (code,)
        case ("spot", road, far):
            return "stretch", road, far, far
        case ("address", street, number):
            return ("stretch",) + stretch_of(web, rows, street, number, day)
        case ("region", name):
            return "tiles", ground_of(moves, name, day)


def meant(atlas, day, form):
    """What the form means: ("point", x, y), ("tiles", codes) or ("stretch", road, low, high)."""
    check_atlas_and_day(atlas, day)
    check_form(atlas, day, form)
    return meaning_of(atlas, day, form)


def anchor_of(atlas, day, form):
    """The anchor of a form; all are known to be such."""
    frames, web, rows, moves = atlas
    match meaning_of(atlas, day, form):
        case ("point", x, y):
            return x, y
        case ("tiles", codes):
            return middle_of_tile(codes[0])
        case ("stretch", road, low, high):
            return spot_point(web, (road, middle(low, high)))


def anchor_on(atlas, day, form):
    """The anchor of the form; just atlas and day are known to be such."""
    check_form(atlas, day, form)
    return anchor_of(atlas, day, form)


def anchor(atlas, day, form):
    """The form's anchor, a point."""
    check_atlas_and_day(atlas, day)
    return anchor_on(atlas, day, form)


def is_kind(atlas, thing):
    """Whether this is a kind to which forms of an atlas are led."""
    frames, web, rows, moves = atlas
    if isinstance(thing, str):
        return thing in ("spot", "address", "region")
    if not begins_with_text(thing, 2, 2):
        return False
    word, worth = thing
    if word == "point":
        return has_frame(frames, worth)
    return word == "tile" and is_number(worth, DEEPEST + 1)


def spot_nearest(web, point):
    found = least_off(web, point)
    if found is None:
        raise NotThere("there are no roads")
    off, road, far = found
    return road, far


def address_nearest(web, rows, point, day):
    found = numbers_of_spot(web, rows, spot_nearest(web, point), day)
    if not found:
        raise NotThere("the spot nearest to it has no address on that day")
    return found[0]


def form_at(atlas, day, point, kind):
    """The form of a kind to which a point is led; all are known to be such."""
    frames, web, rows, moves = atlas
    match kind:
        case ("point", frame):
            x, y = moved(from_ground(frames, frame), point)
            return "point", frame, x, y
        case ("tile", depth):
            return "tile", tile_of(point, depth)
        case "region":
            return "region", region_on(past_of(moves, point), day)
        case "spot":
            return ("spot",) + spot_nearest(web, point)
        case "address":
            return ("address",) + address_nearest(web, rows, point, day)


def led_to(atlas, day, form, kind):
    """(form, off) of a form led to a kind; all are known to be such."""
    begin = anchor_of(atlas, day, form)
    found = form_at(atlas, day, begin, kind)
    return found, box_apart(begin, anchor_of(atlas, day, found))


def lead_on(atlas, day, form, kind):
    """(form, off) of the form led to the kind; just atlas and day are known to be such."""
    check_form(atlas, day, form)
    if not is_kind(atlas, kind):
        raise NoKind("this is no kind to which forms of the atlas are led")
    return led_to(atlas, day, form, kind)


def lead(atlas, day, form, kind):
    """(form, off): the form of that kind to which the form is led, and how far off it is, boxwise."""
    check_atlas_and_day(atlas, day)
    return lead_on(atlas, day, form, kind)


def sides_of(web, meaning):
    """The straight sides whose points are those of a point or of a stretch."""
    match meaning:
        case ("point", x, y):
            return [((x, y), (x, y))]
        case ("stretch", road, low, high):
            return road_part(web, road, low, high)


def point_of_sides(rows, others):
    """Some point of both lots of sides, None where there is none."""
    for side in rows:
        for other in others:
            found = common_point(side, other)
            if found is not None:
                return found
    return None


def point_of_tiles(codes, others):
    """Some point of both lots of tiles, None where there is none."""
    both = common(codes, others)
    if not both:
        return None
    x, y, side = box_of(both[0])
    return x, y


def point_in_tiles(codes, rows):
    """Some point of some sides that some of the tiles have, None where there is none."""
    for code in codes:
        found = tile_point(code, rows)
        if found is not None:
            return found
    return None


def shared_point(web, meaning, other):
    """Some point that both of what forms mean have, None where there is none."""
    if meaning[0] == "tiles" and other[0] == "tiles":
        return point_of_tiles(meaning[1], other[1])
    if meaning[0] == "tiles":
        return point_in_tiles(meaning[1], sides_of(web, other))
    if other[0] == "tiles":
        return point_in_tiles(other[1], sides_of(web, meaning))
    return point_of_sides(sides_of(web, meaning), sides_of(web, other))


def is_one_point(meaning):
    """Whether what a form means is one point alone."""
    return meaning[0] == "point" or (meaning[0] == "stretch" and meaning[2] == meaning[3])


def held_of(atlas, day, form, other):
    """How two forms are held against one another; all are known to be such."""
    frames, web, rows, moves = atlas
    here = meaning_of(atlas, day, form)
    there = meaning_of(atlas, day, other)
    if shared_point(web, here, there) is None:
        return "two"
    return "one" if is_one_point(here) and is_one_point(there) else "open"


def held_on(atlas, day, form, other):
    """How the forms are held against one another; just atlas and day are known to be such."""
    check_form(atlas, day, form)
    check_form(atlas, day, other)
    return held_of(atlas, day, form, other)


def against(atlas, day, form, other):
    """How the forms are held against one another: "one", "two" or "open"."""
    check_atlas_and_day(atlas, day)
    return held_on(atlas, day, form, other)


def both_mean(atlas, day, form, other):
    """Some point that both forms mean, None where there is none."""
    check_atlas_and_day(atlas, day)
    check_form(atlas, day, form)
    check_form(atlas, day, other)
    frames, web, rows, moves = atlas
    return shared_point(web, meaning_of(atlas, day, form), meaning_of(atlas, day, other))


def check_chain(atlas, thing):
    if not is_tuple(thing, 1, MOST_KINDS) or not all(is_kind(atlas, part) for part in thing):
        raise NoChain("this is no chain: a tuple of one to eight kinds")


def chain(atlas, day, form, kinds):
    """(form, off) of each leading, each of the form ahead."""
    check_atlas_and_day(atlas, day)
    check_form(atlas, day, form)
    check_chain(atlas, kinds)
    told = []
    for kind in kinds:
        form, off = led_to(atlas, day, form, kind)
        told.append((form, off))
    return tuple(told)

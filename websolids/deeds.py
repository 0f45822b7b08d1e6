"""What the commands of a desk make and answer, the things that they name being told."""

from websolids.codes import are_alike
from websolids.commands import point_words, ring_words
from websolids.errors import NoSolid, NoThing
from websolids.faces import faces
from websolids.hulls import hull
from websolids.made import has_solid, solid_of
from websolids.polar import polar
from websolids.ratios import ratio_text
from websolids.records import judged, parse_record, record_text
from websolids.rolling import course, rest_faces
from websolids.soliddeeds import cut_off, mirrored, raised
from websolids.solids import inside, map_of, web_of, where
from websolids.webdeeds import cut_corner, tie_across
from websolids.weights import size
from websolids.webtexts import parse_web, web_text

NOTHING = "-"


def made_thing(word, parts):
    """The thing that a deed keeps, its parts behind NEW being told."""
    match word:
        case "web":
            return parse_web(parts[0])
        case "hull":
            return hull(parts[0])
        case "solid":
            return made_solid(parts[0])
        case "trace":
            return web_of(parts[0])
        case "polar":
            return polar(parts[0], inside(parts[0]))
        case "cut":
            return cut_off(parts[0], parts[1])
        case "raise":
            return raised(parts[0], parts[1])
        case "mirror":
            return mirrored(parts[0])
        case "trim":
            return cut_corner(parts[0], parts[1])
        case "tie":
            return tie_across(parts[0], parts[1], parts[2])
        case "read":
            return read_thing(parts[0])
        case _:
            # A copy is the same thing.
            return parts[0]


def answered(word, parts):
    """The answer to a command that tells something of things."""
    match word:
        case "show":
            return shown(parts[0])
        case "has":
            return yes_or_no(has_solid(parts[0]))
        case "faces":
            return rings_told(faces(parts[0]))
        case "alike":
            return yes_or_no(are_alike(map_of(parts[0]), map_of(parts[1])))
        case "size":
            return ratio_text(size(parts[0]))
        case "where":
            return where(parts[0], parts[1])
        case "rests":
            return listed([str(position) for position in rest_faces(parts[0])])
        case "rolls":
            stands, end = course(parts[0], parts[1])
            return listed([str(position) for position in stands] + [end])
        case "judged":
            return judged(parts[0])[0]
        case "record":
            return record_text(parts[0])
        case _:
            return yes_or_no(parts[0] == parts[1])


def made_solid(web):
    """A solid of a web."""
    value = solid_of(web)
    if value[0] != "solid":
        raise NoSolid()
    return value


def read_thing(text):
    """The web or the solid whose record a text is."""
    value = parse_record(text)
    if value[0] != "web" and value[0] != "solid":
        raise NoThing()
    return value


def shown(thing):
    """A thing, written for the eye."""
    if thing[0] == "web":
        return web_text(thing)
    return listed([point_words(corner) for corner in thing[1]]) + "\n" + rings_told(thing[2])


def rings_told(rings):
    """Rings, written."""
    return listed([ring_words(ring) for ring in rings])


def listed(words):
    """Words with blanks between, something for none."""
    return " ".join(words) if words else NOTHING


def yes_or_no(value):
    """The word for a bool."""
    return "yes" if value else "no"

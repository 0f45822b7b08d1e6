"""Webs that are webs of solids, their maps, and solids of many makes, for the tests."""

import functools
import itertools
import random
from fractions import Fraction

from tests import looks, samples
from websolids.drawing import drawn
from websolids.hulls import hull
from websolids.lifting import lifted_solid
from websolids.maps import mirror, rings_of


def wheel(rim):
    """A ring, each corner of it tied to one further corner."""
    return samples.web_with(rim + 1, [(k, (k + 1) % rim) for k in range(rim)] + [(k, rim) for k in range(rim)])


def prism(rim):
    """Two rings, each corner tied to that of the other one."""
    rings = [(k, (k + 1) % rim) for k in range(rim)] + [(rim + k, rim + (k + 1) % rim) for k in range(rim)]
    return samples.web_with(2 * rim, rings + [(k, rim + k) for k in range(rim)])


def antiprism(rim):
    """Two rings, each corner tied to two neighbours in the other one."""
    return samples.web_with(2 * rim, list(prism(rim)[2]) + [(k, rim + (k + 1) % rim) for k in range(rim)])


def double_wheel(rim):
    """A ring, each corner of it tied to two further corners."""
    return samples.web_with(rim + 2, list(wheel(rim)[2]) + [(k, rim + 1) for k in range(rim)])


def kites(rim):
    """A ring of twice as many corners, tied to one further corner and to another one by turns: rings of four alone."""
    around = [(k, (k + 1) % (2 * rim)) for k in range(2 * rim)]
    return samples.web_with(2 * rim + 2, around + [(k, 2 * rim + k % 2) for k in range(2 * rim)])


def twelve_fives():
    """The corners and edges of a dodecahedron."""
    ties = [(k, (k + 1) % 5) for k in range(5)] + [(15 + k, 15 + (k + 1) % 5) for k in range(5)]
    for k in range(5):
        ties += [(k, 5 + k), (5 + k, 10 + k), (5 + k, 10 + (k + 4) % 5), (10 + k, 15 + k)]
    return samples.web_with(20, ties)


def is_solid_web(web):
    """Whether a web is a web of a solid, by cuts and a drawing."""
    return web[1] >= 4 and looks.fewest_in_cut(web) is None and drawn(web) is not None


@functools.cache
def small_solid_webs():
    """All webs of four and five corners that are webs of solids, and one of each kind of six."""
    webs = samples.all_webs(4) + samples.all_webs(5) + samples.unlike_webs(6)
    return tuple([web for web in webs if is_solid_web(web)])


@functools.cache
def solid_webs():
    """Webs of solids of many makes, to 20 corners."""
    webs = [samples.full_web(4), samples.cube(), twelve_fives(), wheel(4), wheel(19), prism(10), prism(3), prism(5)]
    webs += [antiprism(3), antiprism(10), double_wheel(3), double_wheel(4), double_wheel(18), kites(4), kites(9)]
    webs += [samples.mixed(web, 7) for web in (wheel(9), prism(7), antiprism(6), double_wheel(9), kites(6))]
    for seed in range(8):
        webs += [samples.triangulated(5 + 2 * seed, seed), samples.less_ties(samples.triangulated(6 + seed, seed), 1, seed)]
        webs += [samples.less_ties(antiprism(4 + seed % 6), 1 + seed % 4, seed)]
        webs += [samples.less_ties(doubled(samples.triangulated(6, seed)), 4, seed)]
    webs.append(samples.triangulated(20, 3))
    return tuple([web for web in webs if samples.fits(web) and is_solid_web(web)])


def doubled(web):
    """A drawn web, a further corner in each ring tied to all of the ring."""
    ties, many = list(web[2]), web[1]
    for ring in rings_of(drawn(web)):
        ties += [(corner, many) for corner in ring]
        many += 1
    return samples.web_with(many, ties)


@functools.cache
def solid_maps():
    """A map of each of these webs, some of them mirrored."""
    maps = [drawn(web) for web in small_solid_webs()[::5] + solid_webs()]
    return tuple([mirror(chart) if at % 3 == 1 else chart for at, chart in enumerate(maps)])


def rings_of_three(chart):
    """The rings of three corners of a map."""
    return [ring for ring in rings_of(chart) if len(ring) == 3]


def told(parts):
    """Fractions as a tuple of RATIOS."""
    return tuple([(Fraction(part).numerator, Fraction(part).denominator) for part in parts])


def box(x, y, z):
    """A right box."""
    return hull([told(point) for point in itertools.product((0, x), (0, y), (0, z))])


def bowl(many, seed, longest=9):
    """Points all of which are needed, on a round bowl, some of their numbers with long unders."""
    chance, found = random.Random(seed), {}
    while len(found) < many:
        x = Fraction(chance.randrange(-longest, longest), chance.randrange(1, 4))
        y = Fraction(chance.randrange(-longest, longest), chance.randrange(1, 4))
        found[(x, y)] = told((x, y, x * x + y * y))
    return list(found.values())


def moved(solid, seed):
    """The solid with its corners moved by a matrix with a determinant above 0, and in another sequence."""
    chance = random.Random(seed)
    while True:
        rows = [[Fraction(chance.randrange(-5, 6), chance.randrange(1, 4)) for _ in range(3)] for _ in range(3)]
        (a, b, c), (d, e, f), (g, h, i) = rows
        if a * (e * i - f * h) - b * (d * i - f * g) + c * (d * h - e * g) > 0:
            break
    names = list(range(len(solid[1])))
    chance.shuffle(names)
    corners = [None] * len(names)
    for corner, point in enumerate(solid[1]):
        place = [Fraction(*part) for part in point]
        corners[names[corner]] = told([sum([p * q for p, q in zip(row, place)]) + 3 for row in rows])
    rings = [tuple([names[corner] for corner in ring]) for ring in solid[2]]
    rings = [ring[ring.index(min(ring)):] + ring[:ring.index(min(ring))] for ring in rings]
    return ("solid", tuple(corners), tuple(sorted(rings)))


@functools.cache
def solids():
    """Right solids of many makes."""
    made = [box(1, 1, 1), box(2, Fraction(1, 3), 5), hull(bowl(4, 1)), hull(bowl(9, 2)), hull(bowl(20, 3))]
    made += [hull([(told((k, k * k, 0))) for k in range(19)] + [told((3, 3, 1))])]
    made += [hull(bowl(12, 4, 10 ** 20)), hull([told((x, y, z)) for x, y, z in itertools.permutations((1, 2, 4))] +
                                               [told((0, 0, 0))])]
    made += [lifted_solid(chart, rings_of_three(chart)[0]) for chart in solid_maps()[::4] if rings_of_three(chart)]
    return tuple(made + [moved(solid, at) for at, solid in enumerate(made) if at % 2 == 0])

"""The examples of the document's interface, as they stand there, file by file."""

import doctest
import pathlib

from tests.checking import Checking

RATIOS = r"""
>>> from websolids.ratios import is_ratio, parse_ratio, ratio, ratio_text
>>> [ratio(6, -4), ratio(0, -5), ratio_text((-3, 2)), ratio_text((4, 1)), parse_ratio("-0.250"), parse_ratio("006/4")]
[(-3, 2), (0, 1), '-3/2', '4', (-1, 4), (3, 2)]
>>> [is_ratio((1, 2)), is_ratio((2, 4)), is_ratio((True, 2)), is_ratio([1, 2]), is_ratio((0, 1)), is_ratio((1, -2))]
[True, False, False, False, True, False]
"""

SPACE = r"""
>>> from websolids.space import between, foot, is_plane, is_point, meeting, plane_through, side, turn, turned_plane
>>> o, x, y, z = ((0, 1), (0, 1), (0, 1)), ((1, 1), (0, 1), (0, 1)), ((0, 1), (1, 1), (0, 1)), ((0, 1), (0, 1), (1, 1))
>>> [plane_through(o, x, y), plane_through(x, y, z), side((1, 1, 1, 1), o), side((1, 1, 1, 1), x), turned_plane((0, 0, 1, 0)), foot((1, 1, 1, 1), o), between(o, x, (1, 2))[0], turn(((0, 1), (0, 1)), ((1, 1), (0, 1)), ((1, 1), (1, 1)))]
[(0, 0, 1, 0), (1, 1, 1, 1), -1, 0, (0, 0, -1, 0), ((1, 3), (1, 3), (1, 3)), (1, 2), 1]
>>> [meeting((1, 0, 0, 2), (0, 1, 0, 3), (0, 0, 2, 1)), meeting((1, 0, 0, 2), (1, 0, 0, 3), (0, 0, 1, 0)), is_point(o[:2]), is_plane((2, 0, 0, 4)), is_plane((0, 0, 0, 1)), is_plane((2, 0, 0, 1))]
[((2, 1), (3, 1), (1, 2)), None, False, False, False, True]
"""

WEBS = r"""
>>> from websolids.webs import are_tied, degree, is_joined, is_web, made_web, neighbours, parts_without, renamed, with_tie, without_tie
>>> row = made_web(4, [(2, 1), (0, 1), (1, 2), (2, 3)])
>>> [row, is_web(("web", 2, ((1, 0),))), neighbours(row, 2), degree(row, 0), are_tied(row, 0, 3), is_joined(row), is_joined(without_tie(row, 1, 2))]
[('web', 4, ((0, 1), (1, 2), (2, 3))), False, [1, 3], 1, False, True, False]
>>> [parts_without(row, [1]), parts_without(row, [0, 1, 2, 3]), renamed(row, [3, 0, 1, 2])[2], with_tie(row, 3, 0)[2]]
[[(0,), (2, 3)], [], ((0, 1), (0, 3), (1, 2)), ((0, 1), (0, 3), (1, 2), (2, 3))]
"""

WAYS = r"""
>>> from websolids.ways import has_chord, is_plain_ring, is_ring, is_way, plain_ring, shortest_way
>>> square = made_web(4, [(0, 1), (1, 2), (2, 3), (0, 3)])
>>> [is_way(square, (1, 0, 3)), is_way(square, (1, 3)), is_ring(square, (0, 3, 2, 1)), is_plain_ring(square, (0, 3, 2, 1)), is_ring(square, (1, 2, 3, 0)), plain_ring(square, (2, 1, 0, 3))]
[True, False, True, False, False, (0, 1, 2, 3)]
>>> [shortest_way(square, 1, 3, []), shortest_way(square, 1, 3, [0]), shortest_way(square, 1, 3, [3]), shortest_way(square, 2, 2, []), has_chord(square, (0, 1, 2, 3)), has_chord(with_tie(square, 0, 2), (0, 1, 2, 3))]
[(1, 0, 3), (1, 2, 3), None, (2,), False, True]
"""

WEBTEXTS = r"""
>>> from websolids.webtexts import parse_web, web_text
>>> [web_text(row), web_text(("web", 3, ())), parse_web(" 3 :  1-0 2-1 "), parse_web("1:")]
['4: 0-1 1-2 2-3', '3:', ('web', 3, ((0, 1), (1, 2))), ('web', 1, ())]
"""

PARTINGS = r"""
>>> from websolids.partings import is_parting, is_three_joined, least_cut, parting
>>> square = ("web", 4, ((0, 1), (0, 2), (0, 3), (1, 2), (2, 3)))
>>> full = ("web", 4, ((0, 1), (0, 2), (0, 3), (1, 2), (1, 3), (2, 3)))
>>> [is_parting(square, ("parts", (0, 2), (1,))), is_parting(square, ("parts", (0,), (1,))), is_parting(square, ("parts", (0, 2), (1, 3))), is_parting(square, parting(square)), parting(full), is_three_joined(full)]
[True, False, False, True, None, True]
>>> [least_cut(square), least_cut(full), least_cut(("web", 3, ((0, 1),))), is_three_joined(("web", 3, ((0, 1), (0, 2), (1, 2)))), is_parting(("web", 3, ((0, 1),)), ("parts", (), (0, 1)))]
[2, None, 0, False, True]
"""

THREEWAYS = r"""
>>> from websolids.threeways import are_separate, cut_between, is_cut, is_three_ways, most_separate, separate_ways, three_ways
>>> [most_separate(square, 1, 3), most_separate(square, 0, 2), most_separate(full, 0, 1), cut_between(square, 1, 3), is_cut(square, 1, 3, (0,)), is_cut(square, 1, 3, (0, 2))]
[2, 3, 3, (0, 2), False, True]
>>> [is_three_ways(full, 0, 1, [(0, 1), (0, 2, 1), (0, 3, 1)]), is_three_ways(full, 0, 1, [(0, 1), (0, 1), (0, 3, 1)]), are_separate(square, 1, 3, [(1, 0, 3)]), are_separate(square, 1, 3, separate_ways(square, 1, 3)), is_three_ways(full, 2, 3, three_ways(full, 2, 3)), is_three_ways(full, 0, 1, [(0, 1), (0, 2, 3, 1), (0, 3, 1)])]
[True, False, True, True, True, False]
"""

MAPS = r"""
>>> from websolids.maps import is_map, map_of_rings, mirror, ring_left_of, rings_of
>>> four = ("web", 4, ((0, 1), (0, 2), (0, 3), (1, 2), (1, 3), (2, 3)))
>>> tent = ("map", four, ((1, 2, 3), (0, 3, 2), (0, 1, 3), (0, 2, 1)))
>>> [rings_of(tent), ring_left_of(tent, 1, 3), mirror(tent)[2], map_of_rings(four, rings_of(tent)[::-1]) == tent]
[[(0, 1, 2), (0, 2, 3), (0, 3, 1), (1, 3, 2)], (1, 3, 2), ((1, 3, 2), (0, 2, 3), (0, 3, 1), (0, 1, 2)), True]
>>> [is_map(tent), is_map(("map", four, ((1, 2, 3), (0, 2, 3), (0, 1, 3), (0, 2, 1)))), rings_of(("map", ("web", 3, ((0, 1), (1, 2))), ((1,), (0, 2), (1,)))), map_of_rings(four, [(0, 1, 2)])]
[True, False, [(0, 1, 2, 1)], None]
"""

DRAWING = r"""
>>> from websolids.drawing import blocks, drawn
>>> five = ("web", 5, ((0, 1), (0, 2), (0, 3), (0, 4), (1, 2), (1, 3), (1, 4), (2, 3), (2, 4), (3, 4)))
>>> [is_map(drawn(four)), drawn(five), is_map(drawn(("web", 5, five[2][:9]))), blocks(("web", 4, ((0, 1), (1, 2), (1, 3), (2, 3))))]
[True, None, True, [((0, 1),), ((1, 2), (1, 3), (2, 3))]]
"""

BARRED = r"""
>>> from websolids.barred import barred_part, can_be_drawn, is_barred
>>> five = ("web", 5, ((0, 1), (0, 2), (0, 3), (0, 4), (1, 2), (1, 3), (1, 4), (2, 3), (2, 4), (3, 4)))
>>> less = ("web", 6, five[2][:9] + ((3, 5),))
>>> [can_be_drawn(five), can_be_drawn(less), barred_part(less), barred_part(five) == ("barred", "five", (0, 1, 2, 3, 4), five[2]), is_barred(five, ("barred", "five", (0, 1, 2, 3, 4), five[2][::-1])), can_be_drawn(("web", 3, ()))]
[False, True, None, True, False, True]
>>> wells = ("web", 7, ((0, 3), (0, 4), (0, 5), (1, 3), (1, 4), (1, 5), (2, 3), (2, 4), (2, 6), (5, 6)))
>>> [barred_part(wells) == ("barred", "wells", (0, 1, 2, 3, 4, 5), wells[2][:8] + ((2, 6, 5),)), is_barred(wells, ("barred", "wells", (3, 4, 5, 0, 1, 2), ()))]
[True, False]
"""

FACES = r"""
>>> from websolids.faces import faces, faces_at, faces_by_rings, is_face, the_map
>>> four = ("web", 4, ((0, 1), (0, 2), (0, 3), (1, 2), (1, 3), (2, 3)))
>>> square = ("web", 4, ((0, 1), (0, 3), (1, 2), (2, 3)))
>>> [is_face(four, (0, 1, 2)), is_face(four, (0, 2, 1)), is_face(four, (0, 1, 2, 3)), is_face(square, (0, 1, 2, 3)), is_face(four, [0, 1, 2])]
[True, False, False, True, False]
>>> [faces(four), faces_at(four, 3, 1), faces_by_rings(four) == faces(four), faces_by_rings(square)]
[[(0, 1, 2), (0, 1, 3), (0, 2, 3), (1, 2, 3)], [(0, 1, 3), (1, 2, 3)], True, [(0, 1, 2, 3)]]
>>> the_map(four)[2]
((1, 2, 3), (0, 3, 2), (0, 1, 3), (0, 2, 1))
"""

TURNED = r"""
>>> from websolids.turned import back_names, turned
>>> roof = ("map", ("web", 4, ((0, 1), (0, 2), (0, 3), (1, 2), (1, 3), (2, 3))), ((1, 3, 2), (0, 2, 3), (0, 3, 1), (0, 1, 2)))
>>> [turned(roof) == roof, back_names(roof)]
[True, (1, 0, 3, 2)]
"""

CODES = r"""
>>> from websolids.codes import are_alike, chart_of_code, code, is_code, is_kept, is_naming, naming, own_namings, renamed_chart, writing
>>> bent = ("map", ("web", 4, ((0, 1), (1, 2), (1, 3))), ((1,), (0, 3, 2), (1,), (1,)))
>>> [writing(roof, (0, 1), "kept"), code(roof) == writing(roof, (3, 2), "mirrored"), is_code(writing(roof, (0, 1), "kept")), len(own_namings(roof)), naming(roof, roof)]
[((1, 2, 3), (0, 3, 2), (0, 1, 3), (0, 2, 1)), True, True, 24, (0, 1, 2, 3)]
>>> [writing(bent, (0, 1), "kept"), code(bent), chart_of_code(code(bent)) == renamed_chart(bent, (1, 0, 2, 3)), is_naming(bent, bent, (0, 1, 3, 2)), is_kept(bent, bent, (0, 1, 3, 2)), are_alike(roof, bent)]
[((1,), (0, 2, 3), (1,), (1,)), ((1,), (0, 2, 3), (1,), (1,)), False, True, False, False]
"""

EQUATIONS = r"""
>>> from websolids.equations import is_solution, solved_equations
>>> rows, right = [[(2, 1), (1, 1)], [(1, 1), (3, 1)]], [(3, 1), (5, 1)]
>>> [solved_equations(rows, right), solved_equations([[(1, 2), (1, 1)], [(1, 1), (2, 1)]], right), is_solution(rows, right, ((4, 5), (7, 5))), is_solution(rows, right, [(4, 5), (7, 5)])]
[((4, 5), (7, 5)), None, True, False]
"""

MIDDLES = r"""
>>> from websolids.middles import is_at_middles, is_placed, placed, ring_area, rings_around
>>> four = ("map", ("web", 4, ((0, 1), (0, 2), (0, 3), (1, 2), (1, 3), (2, 3))), ((1, 2, 3), (0, 3, 2), (0, 1, 3), (0, 2, 1)))
>>> at = (((0, 1), (0, 1)), ((0, 1), (1, 1)), ((1, 1), (0, 1)), ((1, 3), (1, 3)))
>>> [placed(four, (0, 1, 2)) == at, is_at_middles(four, (0, 1, 2), at[:3] + (((1, 2), (1, 4)),)), is_placed(four, (0, 1, 2), at[:3] + (((1, 2), (1, 4)),)), is_placed(four, (0, 1, 2), at[:3] + (((1, 2), (1, 2)),))]
[True, False, True, False]
>>> [ring_area(four, (0, 1, 2), at, (0, 2, 3)), rings_around(four, (0, 1, 2), at, ((1, 2), (1, 8))), rings_around(four, (0, 1, 2), at, ((1, 6), (1, 6))), rings_around(four, (0, 1, 2), at, ((1, 1), (1, 1)))]
[(1, 6), [(0, 2, 3)], [(0, 2, 3), (0, 3, 1)], []]
"""

LIFTING = r"""
>>> from websolids.lifting import height_at, lifted, lifted_solid, pulls, slopes
>>> four = ("map", ("web", 4, ((0, 1), (0, 2), (0, 3), (1, 2), (1, 3), (2, 3))), ((1, 2, 3), (0, 3, 2), (0, 1, 3), (0, 2, 1)))
>>> [slopes(four, (0, 1, 2)), lifted(four, (0, 1, 2)), height_at(four, (0, 1, 2), ((0, 1), (1, 2))), pulls(four, (0, 1, 2))]
[[((0, 1), (0, 1), (0, 1)), ((-1, 3), (1, 3), (0, 1)), ((1, 3), (2, 3), (-1, 3))], [(0, 1), (1, 3), (0, 1), (0, 1)], (1, 6), [((1, 3), (1, 3)), ((1, 3), (-2, 3)), ((-2, 3), (1, 3))]]
>>> lifted_solid(four, (0, 1, 2))
('solid', (((0, 1), (0, 1), (0, 1)), ((0, 1), (1, 1), (1, 3)), ((1, 1), (0, 1), (0, 1)), ((1, 3), (1, 3), (0, 1))), ((0, 1, 3), (0, 2, 1), (0, 3, 2), (1, 2, 3)))
"""

SOLIDS = r"""
>>> from websolids.solids import faces_of, inside, is_solid, map_of, planes, web_of, where
>>> o, e, half = (0, 1), (1, 1), (1, 2)
>>> tent = ("solid", ((o, o, o), (o, o, e), (o, e, o), (e, o, o)), ((0, 1, 2), (0, 2, 3), (0, 3, 1), (1, 3, 2)))
>>> [is_solid(tent), is_solid(tent[:2] + (((0, 2, 1),) + tent[2][1:],)), planes(tent), web_of(tent)[2] == ((0, 1), (0, 2), (0, 3), (1, 2), (1, 3), (2, 3))]
[True, False, [(-1, 0, 0, 0), (0, 0, -1, 0), (0, -1, 0, 0), (1, 1, 1, 1)], True]
>>> [map_of(tent)[2], inside(tent), where(tent, (half, half, half)), where(tent, (half, o, half)), faces_of(tent, (half, o, half)), faces_of(tent, (o, o, e)), faces_of(tent, inside(tent))]
[((1, 2, 3), (0, 3, 2), (0, 1, 3), (0, 2, 1)), ((1, 4), (1, 4), (1, 4)), 'out', 'on', [2, 3], [0, 2, 3], []]
"""

HULLS = r"""
>>> from websolids.hulls import hull, is_hull, needed
>>> third = (1, 3)
>>> [hull([(e, o, o), (third, third, third), (o, o, e), (o, e, o), (o, o, o), (o, o, o)]) == tent, needed([(e, o, o), (o, o, e), (half, o, half), (o, e, o), (o, o, o)]) == list(tent[1]), is_hull(list(tent[1])[::-1], tent), is_hull(list(tent[1]) + [(e, e, e)], tent)]
[True, True, True, False]
"""

POLAR = r"""
>>> from websolids.polar import faces_round, polar, polar_names
>>> n, one, z, m = (-1, 1), (1, 1), (0, 1), (3, 1)
>>> four = ("solid", ((n, n, n), (m, n, n), (n, m, n), (n, n, m)), ((0, 1, 3), (0, 2, 1), (0, 3, 2), (1, 2, 3)))
>>> [faces_round(four, 0), faces_round(four, 3), polar_names(four)]
[(0, 2, 1), (0, 3, 2), [1, 0, 3, 2]]
>>> polar(four, (z, z, z)) == ("solid", ((z, n, z), (z, z, n), (n, z, z), (one, one, one)), ((0, 1, 3), (0, 2, 1), (0, 3, 2), (1, 2, 3)))
True
"""

WHOLES = r"""
>>> from websolids.wholes import enlarged, greatest_size, is_shrunk, scale, shrunk
>>> half = ("solid", tuple([tuple([(one[0], 2) for one in corner]) for corner in four[1]]), four[2])
>>> [scale(four), scale(half), enlarged(half) == four, greatest_size(half), is_shrunk(half, four), is_shrunk(half, half), is_shrunk(four, shrunk(four, 9))]
[1, 2, True, (3, 2), True, False, True]
"""

REFUSALS = r"""
>>> from websolids.refusals import is_refusal, reason, refusal
>>> square, two = ("web", 4, ((0, 1), (0, 3), (1, 2), (2, 3))), ("web", 2, ((0, 1),))
>>> [is_refusal(square, ("parts", (0, 2), (1,))), reason(square, ("parts", (0,), (1,))), reason(square, ("parts", (2, 0), (1,))), reason(square, ["parts"]), reason(square, ("few", 4)), refusal(two), refusal(("web", 4, ((0, 1), (0, 2), (0, 3), (1, 2), (1, 3), (2, 3))))]
[True, 'open', 'corners', 'form', 'form', ('few', 2), None]
>>> wells = ("web", 6, ((0, 3), (0, 4), (0, 5), (1, 3), (1, 4), (1, 5), (2, 3), (2, 4), (2, 5)))
>>> [is_refusal(wells, ("barred", "wells", (0, 1, 2, 3, 4, 5), wells[2])), reason(wells, ("barred", "wells", (0, 1, 2, 3, 4, 5), ((0, 3, 1, 4),) + wells[2][1:])), reason(wells, ("barred", "wells", (0, 1, 3, 2, 4, 5), wells[2]))]
[True, 'ties', 'ties']
"""

MADE = r"""
>>> from websolids.made import has_solid, is_made, solid_of
>>> four = ("web", 4, ((0, 1), (0, 2), (0, 3), (1, 2), (1, 3), (2, 3)))
>>> o, x, y, z = ((0, 1), (0, 1), (0, 1)), ((1, 1), (0, 1), (0, 1)), ((0, 1), (1, 1), (0, 1)), ((0, 1), (0, 1), (1, 1))
>>> tent = ("solid", (o, x, y, z), ((0, 1, 3), (0, 2, 1), (0, 3, 2), (1, 2, 3)))
>>> [is_made(four, tent), is_made(four, tent[:2] + (((0, 1, 2), (0, 1, 3), (0, 3, 2), (1, 2, 3)),)), is_made(four, list(tent)), has_solid(four), has_solid(square), is_made(four, solid_of(four)), solid_of(two)]
[True, False, False, True, False, True, ('few', 2)]
"""

WEBDEEDS = r"""
>>> from websolids.webdeeds import cut_corner, glued, raise_face, tie_across
>>> from websolids.webs import made_web
>>> four = made_web(4, [(0, 1), (0, 2), (0, 3), (1, 2), (1, 3), (2, 3)])
>>> cut_corner(four, 3)
('web', 6, ((0, 1), (0, 2), (0, 3), (1, 2), (1, 4), (2, 5), (3, 4), (3, 5), (4, 5)))
>>> [tie_across(cut_corner(four, 3), 4, 0)[2][3], raise_face(four, (0, 1, 2)) == made_web(5, list(four[2]) + [(0, 4), (1, 4), (2, 4)]), glued(four, (2, 1, 0), four, (3, 1, 2)) == raise_face(four, (0, 1, 2))]
[(0, 4), True, True]
"""

SOLIDDEEDS = r"""
>>> from websolids.soliddeeds import cut_off, mirrored, moved, raised
>>> w, o = (1, 1), (0, 1)
>>> piece = ("solid", ((o, o, o), (w, o, o), (o, w, o), (o, o, w)), ((0, 1, 3), (0, 2, 1), (0, 3, 2), (1, 2, 3)))
>>> [mirrored(piece)[2], moved(piece, ((w, o, o), (o, w, o), (o, o, (2, 1))), (w, o, o))[1][3], raised(piece, 1)[1][4], len(raised(piece, 1)[2])]
[((0, 1, 2), (0, 2, 3), (0, 3, 1), (1, 3, 2)), ((1, 1), (0, 1), (2, 1)), ((1, 3), (1, 3), (-1, 1)), 6]
>>> [cut_off(piece, 3)[1][3:], cut_off(piece, 3)[2]]
[(((0, 1), (0, 1), (1, 2)), ((1, 2), (0, 1), (1, 2)), ((0, 1), (1, 2), (1, 2))), ((0, 1, 4, 3), (0, 2, 1), (0, 3, 5, 2), (1, 2, 5, 4), (3, 4, 5))]
"""

SECTIONS = r"""
>>> from websolids.sections import halves, section
>>> edge = ("solid", (((0, 1), (0, 1), (0, 1)), ((1, 1), (0, 1), (0, 1)), ((0, 1), (1, 1), (0, 1)), ((0, 1), (0, 1), (1, 1))), ((0, 1, 3), (0, 2, 1), (0, 3, 2), (1, 2, 3)))
>>> section(edge, (0, 0, 2, 1))
[((0, 1), (0, 1), (1, 2)), ((1, 2), (0, 1), (1, 2)), ((0, 1), (1, 2), (1, 2))]
>>> [section(edge, (1, 1, 1, 0)), section(edge, (1, 1, 1, 5)), [len(half[1]) for half in halves(edge, (0, 0, 2, 1))], halves(edge, (1, 1, 1, 1))[1]]
[[((0, 1), (0, 1), (0, 1))], [], [6, 4], None]
"""

LOOKS = r"""
>>> from websolids.looks import corners_seen, is_blocked, rim, seen
>>> high, low = ((2, 1), (2, 1), (2, 1)), ((-1, 1), (-1, 1), (-1, 1))
>>> [seen(edge, high), rim(edge, high), seen(edge, low), rim(edge, low), corners_seen(edge, high), is_blocked(edge, high, low), is_blocked(edge, high, edge[1][1])]
[[3], (1, 2, 3), [0, 1, 2], (1, 3, 2), [1, 2, 3], True, False]
"""

WEIGHTS = r"""
>>> from websolids.weights import foot_on, height_square, middle_of, outward, size
>>> o, i, two = (0, 1), (1, 1), (2, 1)
>>> tent = ("solid", ((o, o, o), (two, o, o), (o, two, o), (o, o, two)), ((0, 1, 3), (0, 2, 1), (0, 3, 2), (1, 2, 3)))
>>> [size(tent), middle_of(tent), outward(tent, 1), outward(tent, 3), foot_on(tent, 1), height_square(tent, 1), height_square(tent, 3)]
[(4, 3), ((1, 2), (1, 2), (1, 2)), ((0, 1), (0, 1), (-2, 1)), ((2, 1), (2, 1), (2, 1)), ((1, 2), (1, 2), (0, 1)), (1, 4), (1, 12)]
"""

ROLLING = r"""
>>> from websolids.rolling import course, rest_faces, rests_on, rolls_to
>>> lean = ("solid", ((o, o, o), (i, o, o), (o, i, o), ((9, 1), o, i)), ((0, 1, 3), (0, 2, 1), (0, 3, 2), (1, 2, 3)))
>>> [rests_on(tent, 1), rest_faces(tent), rolls_to(tent, 3), course(tent, 2)]
[True, [0, 1, 2, 3], None, ([2], 'rest')]
>>> [rests_on(lean, 1), rolls_to(lean, 1)]
[False, 3]
"""

CENSUS = r"""
>>> from websolids.census import all_codes, can_take_out, codes_with, kind_of
>>> four, nine = ("web", 4, ((0, 1), (0, 2), (0, 3), (1, 2), (1, 3), (2, 3))), ("web", 5, ((0, 1), (0, 2), (0, 3), (0, 4), (1, 2), (1, 3), (1, 4), (2, 3), (2, 4)))
>>> tent = ("map", four, ((1, 2, 3), (0, 3, 2), (0, 1, 3), (0, 2, 1)))
>>> [len(all_codes(4)), codes_with(4, 6) == all_codes(4), codes_with(4, 5), kind_of(four), can_take_out(tent, 0, 1), kind_of(nine) == all_codes(5).index(codes_with(5, 9)[0])]
[1, True, [], 0, False, True]
"""

RECORDS = r"""
>>> from websolids.records import check_of, judged, parse_record, record_text
>>> pair = ("web", 2, ((0, 1),))
>>> two = ("refused", pair, ("few", 2))
>>> [judged(pair), judged(two), judged(("refused", pair, ("few", 3))), judged("web"), judged(("solid", ())), check_of("ab")]
[('ok', 'web'), ('ok', 'refused'), ('bad', 'refused'), ('bad', 'value'), ('bad', 'solid'), 293]
>>> [record_text(two)[:28], record_text(two).split("\n")[3].split(" ")[:2], parse_record(record_text(two)) == two]
['websolids 1 refused\n2: 0-1\nf', ['end', '3'], True]
"""

COMMANDS = r"""
>>> from websolids.commands import is_command, is_deed, point_words, ring_words
>>> [is_command("cut b a 0"), is_command("cut b a 00"), is_command("where a 1/2,0,-3"), is_command("where a 1/2,0"), is_command("hull a 0,0,0 1,0,0 0,1,0"), is_command("web w x"), is_deed("show w"), point_words(((1, 2), (0, 1), (-3, 1))), ring_words((0, 2, 11))]
[True, False, True, False, False, True, False, '1/2,0,-3', '0-2-11']
"""

DESK = r"""
>>> from websolids.desk import Desk
>>> desk = Desk()
>>> desk.do_all("hull a 0,0,0 1,0,0 0,1,0 0,0,1", "show a", "size a", "where a 1/8,1/8,1/8", "trace w a", "show w", "has w", "faces w", "undo", "names")
['-', '0,0,0 0,0,1 0,1,0 1,0,0\n0-1-2 0-2-3 0-3-1 1-3-2', '1/6', 'in', '-', '4: 0-1 0-2 0-3 1-2 1-3 2-3', 'yes', '0-1-2 0-1-3 0-2-3 1-2-3', 'trace w a', 'a']
"""


class ExamplesTest(Checking):

    def told(self, text, names):
        """Runs examples with names from earlier ones; all names behind them."""
        examples = doctest.DocTestParser().get_doctest(text, names, "examples", None, 0)
        runner, told = doctest.DocTestRunner(verbose=False), []
        runner.run(examples, out=told.append, clear_globs=False)
        self.assertEqual((runner.failures, "".join(told)), (0, ""))
        self.assertGreater(runner.tries, 1)
        return examples.globs

    def test_examples(self):
        # Names stand for what they were in the last example that gave them.
        names = {}
        rows = [RATIOS, SPACE, WEBS, WAYS, WEBTEXTS, PARTINGS, THREEWAYS, MAPS, DRAWING, BARRED, FACES, TURNED, CODES,
                EQUATIONS, MIDDLES, LIFTING, SOLIDS, HULLS, POLAR, WHOLES, REFUSALS, MADE, WEBDEEDS, SOLIDDEEDS,
                SECTIONS, LOOKS, WEIGHTS, ROLLING, CENSUS, RECORDS, COMMANDS, DESK]
        for text in rows:
            names = self.told(text, names)

    def test_the_examples_of_the_readme(self):
        text = (pathlib.Path(__file__).resolve().parent.parent / "README.md").read_text(encoding="utf-8")
        lots = [lot for lot in text.split("```\n")[1::2] if lot.startswith(">>>")]
        self.assertGreater(len(lots), 2)
        names = {}
        for lot in lots:
            names = self.told(lot, names)

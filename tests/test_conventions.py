"""Tests of what holds for all functions: what is passed stays, what is told is new, names of parameters."""

import copy
import importlib
import inspect

from tests import samples, solidsamples
from tests.checking import Checking
from websolids.census import all_codes, codes_with
from websolids.codes import is_code, own_namings, renamed_chart
from websolids.commands import is_command
from websolids.desk import Desk
from websolids.drawing import blocks, drawn
from websolids.equations import is_solution, solved_equations
from websolids.faces import faces, faces_at, faces_by_rings
from websolids.hulls import hull, is_hull, needed
from websolids.lifting import lifted, pulls, slopes
from websolids.looks import corners_seen, seen
from websolids.made import is_made
from websolids.maps import map_of_rings, rings_of
from websolids.middles import is_placed, placed, rings_around
from websolids.polar import polar_names
from websolids.records import judged
from websolids.refusals import reason
from websolids.rolling import rest_faces
from websolids.sections import section
from websolids.solids import faces_of, is_solid, planes
from websolids.threeways import are_separate, is_three_ways, separate_ways, three_ways
from websolids.ways import shortest_way
from websolids.webs import made_web, neighbours, parts_without, renamed

PARAMETERS = {
    "ratios": "is_ratio(value) ratio(number,under) ratio_text(ratio) parse_ratio(text)",
    "space": "is_point(value) is_flat_point(value) is_plane(value) plane_through(one,other,third) turned_plane(plane) "
             "side(plane,point) turn(one,other,third) foot(plane,point) meeting(plane,other,third) "
             "between(one,other,part)",
    "webs": "is_web(value) made_web(many,ties) neighbours(web,corner) degree(web,corner) are_tied(web,one,other) "
            "with_tie(web,one,other) without_tie(web,one,other) is_joined(web) parts_without(web,corners) "
            "renamed(web,names)",
    "ways": "is_way(web,value) is_ring(web,value) is_plain_ring(web,value) shortest_way(web,one,other,barred) "
            "plain_ring(web,ring) has_chord(web,ring)",
    "webtexts": "web_text(web) parse_web(text)",
    "partings": "parting(web) is_parting(web,value) least_cut(web) is_three_joined(web)",
    "threeways": "most_separate(web,one,other) separate_ways(web,one,other) are_separate(web,one,other,value) "
                 "cut_between(web,one,other) is_cut(web,one,other,value) three_ways(web,one,other) "
                 "is_three_ways(web,one,other,value)",
    "maps": "is_map(value) rings_of(chart) ring_left_of(chart,one,other) mirror(chart) map_of_rings(web,rings)",
    "drawing": "blocks(web) drawn(web)",
    "barred": "is_barred(web,value) barred_part(web) can_be_drawn(web)",
    "faces": "is_face(web,value) faces(web) faces_at(web,one,other) the_map(web) faces_by_rings(web)",
    "turned": "turned(chart) back_names(chart)",
    "codes": "writing(chart,tie,way) code(chart) is_code(value) chart_of_code(code) renamed_chart(chart,names) "
             "is_naming(chart,other,value) is_kept(chart,other,value) are_alike(chart,other) naming(chart,other) "
             "own_namings(chart)",
    "equations": "solved_equations(rows,right) is_solution(rows,right,value)",
    "middles": "placed(chart,ring) is_at_middles(chart,ring,value) is_placed(chart,ring,value) "
               "ring_area(chart,ring,places,face) rings_around(chart,ring,places,point)",
    "lifting": "slopes(chart,ring) lifted(chart,ring) height_at(chart,ring,point) pulls(chart,ring) "
               "lifted_solid(chart,ring)",
    "solids": "is_solid(value) planes(solid) web_of(solid) map_of(solid) inside(solid) where(solid,point) "
              "faces_of(solid,point)",
    "hulls": "hull(points) needed(points) is_hull(points,value)",
    "polar": "faces_round(solid,corner) polar_names(solid) polar(solid,point)",
    "wholes": "scale(solid) enlarged(solid) greatest_size(solid) shrunk(solid,room) is_shrunk(solid,value)",
    "refusals": "is_refusal(web,value) reason(web,value) refusal(web)",
    "made": "solid_of(web) has_solid(web) is_made(web,value)",
    "webdeeds": "cut_corner(web,corner) raise_face(web,ring) tie_across(web,one,other) "
                "glued(first,one_round,second,other_round)",
    "soliddeeds": "cut_off(solid,corner) raised(solid,position) mirrored(solid) moved(solid,matrix,point)",
    "sections": "section(solid,plane) halves(solid,plane)",
    "looks": "seen(solid,point) rim(solid,point) corners_seen(solid,point) is_blocked(solid,one,other)",
    "weights": "size(solid) middle_of(solid) outward(solid,position) foot_on(solid,position) "
               "height_square(solid,position)",
    "rolling": "rests_on(solid,position) rest_faces(solid) rolls_to(solid,position) course(solid,position)",
    "census": "all_codes(many) codes_with(many,ties) kind_of(web) can_take_out(chart,one,other)",
    "records": "judged(value) check_of(text) record_text(value) parse_record(text)",
    "commands": "is_command(value) is_deed(value) point_words(point) ring_words(ring)",
}
# Each method of a desk stands in its class itself.
DESK = ("__init__(self) names(self) __len__(self) __getitem__(self,name) __contains__(self,name) __call__(self,command) "
        "do(self,command) do_all(self,commands) lines(self) twin(self) again(lines)")
FOUR = samples.full_web(4)
CHART, SOLID = drawn(FOUR), solidsamples.solids()[0]
ROWS, RIGHT = [[(2, 1), (1, 1)], [(1, 1), (3, 1)]], [(3, 1), (5, 1)]
EYE = ((5, 1), (7, 1), (9, 1))
HUNG = samples.hung([samples.full_web(4), samples.tree(4, 1), samples.ring_web(5)], 2)


class ConventionsTest(Checking):

    def test_parameters(self):
        for stem, rows in PARAMETERS.items():
            module = importlib.import_module("websolids." + stem)
            for row in rows.split():
                name, told = row[:-1].split("(")
                self.assertTrue(inspect.isfunction(getattr(module, name)), name)
                self.assertEqual(list(inspect.signature(getattr(module, name)).parameters), told.split(","), name)

    def test_methods_of_a_desk(self):
        for row in DESK.split():
            name, told = row[:-1].split("(")
            self.assertIn(name, vars(Desk))
            self.assertEqual(list(inspect.signature(getattr(Desk, name)).parameters), told.split(","), name)
        self.assertEqual(Desk.__bases__, (object,))

    def test_lists_that_are_passed_stay(self):
        rings = rings_of(drawn(HUNG))
        calls = [(made_web, [4, [(2, 1), (0, 1), (1, 2)]]), (parts_without, [HUNG, [3, 1]]),
                 (renamed, [FOUR, [3, 1, 0, 2]]), (shortest_way, [HUNG, 0, 5, [7, 2]]), (map_of_rings, [HUNG, rings]),
                 (are_separate, [FOUR, 0, 1, [(0, 2, 1), (0, 1)]]), (map_of_rings, [FOUR, [(0, 1), (1, 2)]]),
                 (is_three_ways, [FOUR, 0, 1, [(0, 2, 1), (0, 1)]]), (map_of_rings, [HUNG, rings[::-1]]),
                 (renamed_chart, [CHART, [3, 1, 0, 2]]), (solved_equations, [ROWS, RIGHT]),
                 (is_solution, [ROWS, RIGHT, ((4, 5), (7, 5))]), (hull, [list(SOLID[1])]), (needed, [list(SOLID[1])[::-1]]),
                 (is_hull, [list(SOLID[1]), SOLID]), (is_code, [[[1], [0]]]), (is_solid, [list(SOLID)]),
                 (reason, [FOUR, ["parts", [0], [1]]]), (is_placed, [CHART, (0, 1, 2), [[(0, 1), (0, 1)]]]),
                 (is_made, [FOUR, list(SOLID)]), (judged, [["web", 3, []]]), (judged, [("made", FOUR, list(SOLID))]),
                 (is_command, [["undo"]])]
        for call, args in calls:
            kept = copy.deepcopy(args)
            first = call(*args)
            self.same(args, kept)
            self.same(call(*args), first)
            self.same(args, kept)

    def test_a_tuple_stands_for_a_list(self):
        rings = rings_of(drawn(HUNG))
        for call, args, row in [(made_web, [4], [(2, 1), (0, 1)]), (parts_without, [HUNG], [3, 1]),
                                (renamed, [FOUR], [3, 1, 0, 2]), (shortest_way, [HUNG, 0, 5], [7]),
                                (map_of_rings, [HUNG], rings), (are_separate, [FOUR, 0, 1], [(0, 1), (0, 3, 1)]),
                                (renamed_chart, [CHART], [3, 1, 0, 2]), (solved_equations, [ROWS], RIGHT),
                                (hull, [], list(SOLID[1])), (needed, [], list(SOLID[1]))]:
            self.same(call(*args, tuple(row)), call(*args, row))

    def test_lists_that_are_told_are_new(self):
        for call, args in [(neighbours, (HUNG, 0)), (parts_without, (HUNG, [0])), (rings_of, (drawn(HUNG),)),
                           (blocks, (HUNG,)), (separate_ways, (HUNG, 0, 5)), (three_ways, (FOUR, 0, 3)), (faces, (FOUR,)),
                           (faces_at, (FOUR, 0, 1)), (faces_by_rings, (FOUR,)), (own_namings, (CHART,)),
                           (rings_around, (CHART, (0, 1, 2), placed(CHART, (0, 1, 2)), ((1, 3), (1, 3)))),
                           (slopes, (CHART, (0, 1, 2))), (lifted, (CHART, (0, 1, 2))), (pulls, (CHART, (0, 1, 2))),
                           (planes, (SOLID,)), (faces_of, (SOLID, SOLID[1][0])), (needed, (SOLID[1],)), (polar_names, (SOLID,)),
                           (section, (SOLID, (1, 1, 1, 1))), (seen, (SOLID, EYE)), (corners_seen, (SOLID, EYE)),
                           (rest_faces, (SOLID,)), (all_codes, (5,)), (codes_with, (5, 9))]:
            self.new_list(call, *args)

    def test_what_is_told_has_no_list_that_was_passed(self):
        ties, names = [(0, 1), (1, 2)], [2, 0, 1]
        web = made_web(3, ties)
        other = renamed(web, names)
        ties.append((0, 2))
        names.reverse()
        self.same(web, ("web", 3, ((0, 1), (1, 2))))
        self.same(other, ("web", 3, ((0, 1), (0, 2))))

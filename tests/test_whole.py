"""Tests of what the document promises over the whole program."""

import importlib
import inspect

from tests import samples, solidsamples
from tests.checking import Checking
from tests.solidlooks import spoilt
from tests.test_conventions import CHART, EYE, FOUR, HUNG, PARAMETERS, SOLID
from tests.test_maps import TENT
from tests.test_maps import spoilt as spoilt_charts
from tests.test_records import looked_judged, values
from tests.test_refusals import PAPERS
from tests.test_solids import NO_SOLIDS
from websolids import errors
from websolids.codes import are_alike, is_kept
from websolids.desk import Desk
from websolids.drawing import drawn
from websolids.faces import faces, the_map
from websolids.hulls import hull
from websolids.lifting import lifted_solid
from websolids.made import has_solid, is_made, solid_of
from websolids.maps import mirror, rings_of
from websolids.polar import polar, polar_names
from websolids.records import judged, parse_record, record_text
from websolids.refusals import is_refusal, refusal
from websolids.soliddeeds import cut_off, mirrored, moved, raised
from websolids.solids import inside, map_of, web_of
from websolids.turned import back_names, turned
from websolids.ways import lesser_way_round
from websolids.wholes import enlarged, shrunk

# Of each question of any value what stands ahead of the value.
QUESTIONS = {
    "ratios.is_ratio": (), "space.is_point": (), "space.is_flat_point": (), "space.is_plane": (), "webs.is_web": (),
    "ways.is_way": (FOUR,), "ways.is_ring": (FOUR,), "ways.is_plain_ring": (FOUR,), "partings.is_parting": (HUNG,),
    "threeways.are_separate": (FOUR, 0, 1), "threeways.is_cut": (HUNG, 0, 8), "threeways.is_three_ways": (FOUR, 0, 1),
    "maps.is_map": (), "barred.is_barred": (samples.full_web(5),), "faces.is_face": (FOUR,), "codes.is_code": (),
    "codes.is_naming": (CHART, CHART), "codes.is_kept": (CHART, CHART), "equations.is_solution": ([[(1, 1)]], [(2, 1)]),
    "middles.is_at_middles": (CHART, (0, 1, 2)), "middles.is_placed": (CHART, (0, 1, 2)), "solids.is_solid": (),
    "hulls.is_hull": (SOLID[1],), "wholes.is_shrunk": (SOLID,), "refusals.is_refusal": (HUNG,), "made.is_made": (FOUR,),
    "commands.is_command": (), "commands.is_deed": (),
}


def call_of(name):
    """The function of a name with its file's."""
    stem, own = name.split(".")
    return getattr(importlib.import_module("websolids." + stem), own)


class ExactlyIfTest(Checking):

    def test_a_solid_or_a_paper(self):
        webs = samples.small_webs() + samples.unlike_webs(5) + samples.large_webs()[::3] + list(solidsamples.solid_webs()[::2])
        for web in webs:
            value, paper = solid_of(web), refusal(web)
            self.assertIs(paper is None, has_solid(web))
            self.assertIs(is_made(web, value), has_solid(web))
            self.assertIs(is_refusal(web, value), not has_solid(web))
            kept = ("made" if has_solid(web) else "refused", web, value)
            self.same(judged(kept), ("ok", kept[0]))
            self.same(judged(("refused" if has_solid(web) else "made",) + kept[1:])[0], "bad")
            self.same(parse_record(record_text(kept)), kept)

    def test_no_paper_of_a_web_with_a_solid(self):
        for web in solidsamples.solid_webs()[::3]:
            for _, paper in PAPERS:
                self.same(is_refusal(web, paper), False)


class OneMapTest(Checking):

    def solids_of(self, web):
        """Solids of one web, made in many ways."""
        made = solid_of(web)
        found = [made, mirrored(made), moved(made, (EYE, ((0, 1), (1, 1), (0, 1)), ((1, 1), (0, 1), (0, 1))), EYE),
                 enlarged(made)]
        found += [shrunk(made, 9)]
        chart = the_map(web)
        found += [lifted_solid(chart, ring) for ring in rings_of(chart) if len(ring) == 3][:3]
        if len(made[2]) <= 20:
            back = polar(polar(made, inside(made)), ((0, 1), (0, 1), (0, 1)))
            names = polar_names(made)
            corners = {name: corner for name, corner in zip(names, back[1])}
            found.append(("solid", tuple([corners[at] for at in range(len(names))]), made[2]))
        return found

    def test_all_solids_of_a_web(self):
        for web in solidsamples.small_solid_webs()[::11] + solidsamples.solid_webs()[::3]:
            chart = the_map(web)
            for solid in self.solids_of(web):
                self.same(is_made(web, solid), True)
                self.same(web_of(solid), web)
                self.assertIn(map_of(solid), (chart, mirror(chart)))
                self.same(rings_of(map_of(solid)), list(solid[2]))
                self.same(sorted([lesser_way_round(ring) for ring in solid[2]]), faces(web))

    def test_polar_and_turned(self):
        for solid in solidsamples.solids():
            if len(solid[2]) <= 20:
                other, chart = polar(solid, inside(solid)), map_of(solid)
                self.same(map_of(other), turned(chart))
                self.same(tuple(polar_names(solid)), back_names(chart))
                self.same(is_kept(turned(turned(chart)), chart, back_names(chart)), True)
                self.same(are_alike(map_of(polar(other, inside(other))), chart), True)

    def test_deeds_and_hulls(self):
        for solid in solidsamples.solids()[::2]:
            for other in [solid] + ([cut_off(solid, 0), raised(solid, 0)] if len(solid[1]) < 12 else []):
                self.same(sorted(hull(other[1])[1]), sorted(other[1]))
                self.same(judged(("made", web_of(other), other)), ("ok", "made"))
                self.same(are_alike(map_of(hull(other[1])), map_of(other)), True)


class QuestionsTest(Checking):

    def test_bools_for_any_value(self):
        wrong = samples.junk() + samples.no_webs() + NO_SOLIDS + spoilt_charts(TENT) + spoilt(SOLID) + values()[::4]
        for name, ahead in QUESTIONS.items():
            call = call_of(name)
            self.assertEqual(list(inspect.signature(call).parameters)[-1], "value")
            for value in wrong:
                self.assertIs(type(call(*ahead, value)), bool, (name, value))

    def test_all_questions_are_asked(self):
        asked = {stem + "." + row.split("(")[0] for stem,
                 rows in PARAMETERS.items() for row in rows.split() if row.endswith("value)")}
        asked -= {"records.judged", "records.record_text", "refusals.reason"}
        self.assertEqual(asked, set(QUESTIONS))

    def test_judged(self):
        for value in samples.junk() + NO_SOLIDS + spoilt(SOLID):
            self.same(judged(value), looked_judged(value))


class ErrorsTest(Checking):

    def test_errors_are_made_with_any_values(self):
        kinds = [kind for _, kind in inspect.getmembers(errors, inspect.isclass)]
        self.assertGreater(len(kinds), 55)
        for kind in kinds:
            names = list(inspect.signature(kind).parameters) if "__init__" in vars(kind) else []
            for value in samples.junk():
                made = kind(*[value] * len(names))
                for name in names:
                    self.assertIs(getattr(made, name), value)


class DeskTest(Checking):

    def test_a_long_row(self):
        desk = Desk()
        desk.do_all("web w 4: 0-1 0-2 0-3 1-2 1-3 2-3", "solid s w", "cut t s 0", "raise u t 0", "polar v u",
                    "mirror m v", "trace n m",
                    "trim o w 0", "tie r o 0 2")
        for name in desk.names():
            self.same(desk.do("judged " + name), "ok")
            self.same(parse_record(desk.do("record " + name)), desk[name])
        self.same(desk.do("has r"), "yes")
        self.assertIsNotNone(drawn(desk["r"]))

"""A solid made of a map alone: lifted, or polar to one that is lifted."""

from websolids.lifting import solid_over
from websolids.maps import mirrored_chart, rings_in
from websolids.polar import polar_about
from websolids.space import middle_of_rows
from websolids.turned import back_names, turned


def solid_of_map(chart):
    """A right solid whose faces are the rings of what is known to be a map of a three-joined web."""
    # A lifted solid has the rings turned round: so the mirrored map is lifted.
    mirrored = mirrored_chart(chart)
    threes = [ring for ring in rings_in(mirrored[2]) if len(ring) == 3]
    return solid_over(mirrored, threes[0]) if threes else polar_of_turned(chart)


def polar_of_turned(chart):
    """A right solid with the rings of a map as faces, none of them of three corners."""
    # Then some corner has three neighbours: so the map turned about has a ring of three, and few corners.
    solid = solid_of_map(turned(chart))
    corners = polar_about(solid, middle_of_rows(list(solid[1])))[1]
    named = {name: corner for name, corner in zip(back_names(chart), corners)}
    return ("solid", tuple([named[corner] for corner in range(len(named))]), tuple(rings_in(chart[2])))

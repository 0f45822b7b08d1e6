"""Blocks of a web, and maps put together of theirs."""

from websolids.errors import NotJoined
from websolids.fitting import block_rings
from websolids.maps import can_have_map, followers, round_of
from websolids.ways import from_least
from websolids.webs import check_web, neighbour_rows


def blocks(web):
    """The sorted list of the blocks, each the sorted tuple of its ties."""
    check_web(web)
    return blocks_of(web)


def drawn(web):
    """A map of the web, None if there is none."""
    check_web(web)
    if not can_have_map(web):
        raise NotJoined()
    rounds = [[] for _ in range(web[1])]
    for block in blocks_of(web):
        rings = block_rings(block)
        if rings is None:
            return None
        for corner, follow in followers(rings).items():
            rounds[corner].extend(round_of(follow))
    return ("map", web, tuple([from_least(row) for row in rounds]))


def blocks_of(web):
    """The blocks of what is known to be a web."""
    paths = tree_paths(neighbour_rows(web))
    marks = {tie: mark for mark, tie in enumerate(web[2])}
    for tie in web[2]:
        # All rings come together of those that one tie closes with the trees: so these tell the blocks.
        lost = [marks[own] for own in closed_ring(paths, tie)]
        marks = {own: marks[tie] if marks[own] in lost else marks[own] for own in marks}
    found = {}
    for tie in web[2]:
        found.setdefault(marks[tie], []).append(tie)
    return sorted([tuple(block) for block in found.values()])


def tree_paths(rows):
    """For each corner the path to it from the root of a tree of its part."""
    paths = {}
    for root in range(len(rows)):
        if root not in paths:
            paths[root] = (root,)
            grow_tree(rows, root, paths)
    return paths


def grow_tree(rows, root, paths):
    """Adds the paths to all corners that are joined with a root to the paths that are known."""
    places, at = [root], 0
    while at < len(places):
        corner = places[at]
        for other in rows[corner]:
            if other not in paths:
                paths[other] = paths[corner] + (other,)
                places.append(other)
        at += 1


def closed_ring(paths, tie):
    """The ties of the ring that a tie closes with the trees: the tie alone, if it is of a tree."""
    first, second = paths[tie[0]], paths[tie[1]]
    shared = len([corner for corner in first if corner in second])
    return path_ties(first[shared - 1:]) + path_ties(second[shared - 1:]) + [tie]


def path_ties(path):
    """The ties between neighbours in a path."""
    return [(min(pair), max(pair)) for pair in zip(path, path[1:])]

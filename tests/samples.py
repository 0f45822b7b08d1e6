"""Values of all kinds, and many webs, for the tests."""

import itertools
import random


def junk():
    """Values of all kinds, none of which is of any kind that the document names but an INTEGER, a list or a tuple."""
    return [
        None, True, False, 0, 1, -1, 2, 7, 21, 10 ** 50, -10 ** 50,
        "", "a", "0", "web", "map", "(0, 1)", b"", b"web", object(), object, len, range(3),
        [], (), {}, set(), [0], (0,), (True,), (None,), [0, 1], (0, 1), (1, 0), (False, True), (0, "1"),
        (0, 1, 2), [0, 1, 2], ((0, 1),), [[0, 1]], [(0, 1)], ([0, 1],), (("0", 1),), {0: 1}, {0, 1},
        ("web",), ("web", 2), ("web", 2, 3), ("map", 1, 2), ("parts",), ("parts", 0, 1), ("barred", 0, 1, 2),
        (None, None, None), ((), (), ()), ([], [], []), (((),),), nested(30),
    ]


def nested(deep):
    """A tuple in a tuple, and so on."""
    value = ()
    for _ in range(deep):
        value = (value,)
    return value


def no_webs():
    """Values that are no WEBS, many of them nearly one."""
    pairs20 = [(a, b) for a in range(20) for b in range(a + 1, 20)]
    return [value for value in junk() if value != ("web", 1, ())] + [
        ("web", 0, ()), ("web", 21, ()), ("web", -1, ()), ("web", True, ()), ("web", "3", ()), ("web", None, ()),
        ("Web", 3, ()), ("map", 3, ()), (b"web", 3, ()), (["web"], 3, ()), ("web", 3, (), ()), ("web", 3),
        ["web", 3, ()], ("web", 3, []), ("web", 3, None), ("web", 3, {}), ("web", 3, "ab"),
        ("web", 3, ([0, 1],)), ("web", 3, ((1, 0),)), ("web", 3, ((0, 0),)), ("web", 3, ((0, 3),)),
        ("web", 3, ((-1, 0),)), ("web", 3, ((0, 1, 2),)), ("web", 3, ((0,),)), ("web", 3, ((False, 1),)),
        ("web", 3, ((0, True),)), ("web", 3, (("0", 1),)), ("web", 3, ((0, 1), (0, 1))), ("web", 3, (0, 1)),
        ("web", 3, ((0, 2), (0, 1))), ("web", 3, ((1, 2), (0, 1))), ("web", 3, ((0, 1), (2, 1))),
        ("web", 3, [(0, 1)]), ("web", 3, (None,)), ("web", 3, ((0, None),)), ("web", 1, ((0, 1),)),
        ("web", 20, tuple(pairs20[:61])), ("web", 20, tuple(pairs20)), (("web", 3, ()),), [("web", 3, ())],
    ]


def pairs_of(many):
    """All pairs of unlike corners, rising."""
    return list(itertools.combinations(range(many), 2))


def web_with(many, ties):
    """A WEB written straight down."""
    return ("web", many, tuple(sorted({(min(tie), max(tie)) for tie in ties})))


def all_webs(many):
    """All webs of so many corners."""
    pairs = pairs_of(many)
    return [
        ("web", many, tuple([pair for at, pair in enumerate(pairs) if mark >> at & 1]))
        for mark in range(1 << len(pairs))
    ]


def small_webs():
    """All webs of at most four corners."""
    return [web for many in range(1, 5) for web in all_webs(many)]


def unlike_webs(many):
    """One web of each lot of webs of so many corners that are alike but for the names, its names mixed."""
    pairs = pairs_of(many)
    place = {pair: at for at, pair in enumerate(pairs)}
    moves = []
    for names in itertools.permutations(range(many)):
        moves.append([place[tuple(sorted((names[a], names[b])))] for a, b in pairs])
    known, webs = set(), []
    for mark in range(1 << len(pairs)):
        if mark not in known:
            ones = [at for at in range(len(pairs)) if mark >> at & 1]
            known.update({sum([1 << move[at] for at in ones]) for move in moves})
            webs.append(mixed(("web", many, tuple([pairs[at] for at in ones])), mark))
    return webs


def mixed(web, seed):
    """The web with its corners named anew by chance."""
    names = list(range(web[1]))
    random.Random(seed).shuffle(names)
    return web_with(web[1], [(names[a], names[b]) for a, b in web[2]])


def triangulated(many, seed):
    """A web that is drawn with rings of three corners only: 3 many - 6 ties."""
    chance = random.Random(seed)
    ties, rings = [(0, 1), (0, 2), (1, 2)], [(0, 1, 2), (0, 1, 2)]
    for corner in range(3, many):
        ring = rings.pop(chance.randrange(len(rings)))
        ties += [(other, corner) for other in ring]
        rings += [(ring[0], ring[1], corner), (ring[0], ring[2], corner), (ring[1], ring[2], corner)]
    return mixed(web_with(many, ties), seed)


def by_chance(many, ties, seed):
    """A web of so many corners and ties, chosen by chance."""
    return web_with(many, random.Random(seed).sample(pairs_of(many), ties))


def less_ties(web, lost, seed):
    """The web with so many ties less."""
    return web_with(web[1], random.Random(seed).sample(list(web[2]), len(web[2]) - lost))


def more_ties(web, further, seed):
    """The web with so many ties more."""
    free = [pair for pair in pairs_of(web[1]) if pair not in web[2]]
    return web_with(web[1], list(web[2]) + random.Random(seed).sample(free, further))


def tree(many, seed):
    """A web in which just one way leads from each corner to each other one."""
    chance = random.Random(seed)
    return mixed(web_with(many, [(chance.randrange(corner), corner) for corner in range(1, many)]), seed)


def ring_web(many):
    """A ring of corners alone."""
    return web_with(many, [(corner, (corner + 1) % many) for corner in range(many)])


def full_web(many):
    """A web in which any two corners are tied."""
    return ("web", many, tuple(pairs_of(many)))


def wells_web(houses, wells):
    """Houses, each tied to each well."""
    return web_with(houses + wells, [(a, houses + b) for a in range(houses) for b in range(wells)])


def stretched(web, times, seed):
    """The web with so many ties parted by a further corner each."""
    chance = random.Random(seed)
    many, ties = web[1], list(web[2])
    for _ in range(times):
        a, b = ties.pop(chance.randrange(len(ties)))
        ties += [(a, many), (b, many)]
        many += 1
    return mixed(web_with(many, ties), seed)


def hung(webs, seed):
    """Webs one behind the other, the first corner of each being one of those ahead."""
    chance = random.Random(seed)
    many, ties = 1, []
    for web in webs:
        names = [chance.randrange(many)] + list(range(many, many + web[1] - 1))
        ties += [(names[a], names[b]) for a, b in web[2]]
        many += web[1] - 1
    return mixed(web_with(many, ties), seed)


def apart(webs):
    """Webs beside one another, not joined."""
    many, ties = 0, []
    for web in webs:
        ties += [(a + many, b + many) for a, b in web[2]]
        many += web[1]
    return web_with(many, ties)


def cube():
    """The corners and edges of a cube."""
    return web_with(8, [(a, a ^ bit) for a in range(8) for bit in (1, 2, 4)])


def joined_large_webs():
    """Larger joined webs of many makes, to 20 corners and 60 ties."""
    webs = [ring_web(20), full_web(10), full_web(11), full_web(6), cube(), wells_web(3, 17), wells_web(4, 15)]
    webs += [web for web in [wells_web(2, 18), tree(20, 1), tree(20, 2), web_with(20, [(0, k) for k in range(1, 20)])]]
    for seed in range(12):
        many = 5 + seed + seed // 3
        solid = triangulated(many, seed)
        webs += [solid, mixed(solid, seed + 50), stretched(triangulated(8, seed), 12, seed)]
        webs += [more_ties(triangulated(20, seed), seed % 6 + 1, seed)]
        webs += [stretched(full_web(5), seed, seed), stretched(wells_web(3, 3), seed, seed)]
        webs += [hung([full_web(4), ring_web(5), triangulated(6, seed), ring_web(3), tree(3, seed)], seed)]
        webs += [hung([full_web(4), full_web(5), ring_web(4), full_web(4)], seed)]
        webs += [hung([triangulated(7, seed), wells_web(3, 3), full_web(2), ring_web(6)], seed)]
        for lost in (2, 5, 9):
            webs.append(hung([less_ties(triangulated(12, seed), lost, seed + lost), full_web(3)], seed))
        webs.append(hung([by_chance(9, 14 + seed, seed), full_web(3)], seed))
        webs.append(by_chance(20, 60 - seed % 4, seed))
    return [web for web in webs if fits(web) and hangs_together(web)]


def large_webs():
    """Larger webs, joined ones and others."""
    webs = joined_large_webs()
    for seed in range(10):
        webs.append(by_chance(14 + seed % 7, 12 + 3 * seed, seed))
        webs.append(apart([triangulated(6, seed), full_web(5), full_web(1), ring_web(4)]))
        webs.append(apart([triangulated(9, seed), cube(), full_web(2), full_web(1)]))
    return [web for web in webs if fits(web)]


def fits(web):
    """Whether the web is one within the bounds."""
    return web[1] <= 20 and len(web[2]) <= 60


def hangs_together(web):
    """Whether the web is joined."""
    reached = {0}
    for _ in range(web[1]):
        reached |= {b for a, b in web[2] if a in reached} | {a for a, b in web[2] if b in reached}
    return len(reached) == web[1]

"""The fewest winds: how loads are brought to their goals, gates left out."""

from cagebells.drum import CAGES, all_stops, level_at, other_place, wound_place
from cagebells.known import is_known
from cagebells.loads import CAGE_SPOTS

MOST_PLANNED = 3
NO_ROW = -1


def all_stands(depths, many):
    rows = spot_rows(len(depths), many)
    stands = []
    for stop in all_stops(depths):
        stands.extend([(stop,) + spots for spots in rows])
    return stands


def spot_rows(levels, many):
    choices = list(range(levels)) + list(CAGE_SPOTS)
    rows = [()]
    for load in range(many):
        longer = []
        for row in rows:
            longer.extend([row + (spot,) for spot in choices if spot not in CAGE_SPOTS or spot not in row])
        rows = longer
    return rows


def stand_after(depths, dead, stand, step):
    if step[0] == "wind":
        return stand_wound(depths, dead, stand, step)
    if not is_known(step[1], len(stand) - 1):
        return None
    return stand_handled(cage_levels(depths, stand[0]), stand, step)


def stand_wound(depths, dead, stand, step):
    cage = step[1]
    level = step[2]
    if not is_known(level, len(depths)) or level in dead:
        return None
    return (wound_place(depths, cage, level),) + stand[1:]


def stand_handled(levels, stand, step):
    word = step[0]
    k = step[1]
    cage = step[2]
    # The stop is left out: its number may be that of a cage's spot.
    spots = stand[1:]
    if levels[cage] is None:
        return None
    if word == "load" and spots[k] == levels[cage] and CAGE_SPOTS[cage] not in spots:
        return with_spot(stand, k, CAGE_SPOTS[cage])
    if word == "unload" and spots[k] == CAGE_SPOTS[cage]:
        return with_spot(stand, k, levels[cage])
    return None


def with_spot(stand, k, spot):
    return stand[:k + 1] + (spot,) + stand[k + 2:]


def cage_levels(depths, stop):
    return (level_at(depths, stop), level_at(depths, other_place(depths, stop)))


def levels_by_stop(depths):
    levels = {}
    for stop in all_stops(depths):
        levels[stop] = cage_levels(depths, stop)
    return levels


def stands_handled(levels, stand):
    found = []
    for k in range(len(stand) - 1):
        word = "unload" if stand[k + 1] in CAGE_SPOTS else "load"
        for cage in CAGES:
            step = (word, k, cage)
            after = stand_handled(levels, stand, step)
            if after is not None:
                found.append((step, after))
    return found


def fewest_table(depths, dead, goals):
    table = {}
    for stand in all_stands(depths, len(goals)):
        table[stand] = NO_ROW
    levels = levels_by_stop(depths)
    live = live_stops(depths, dead)
    stands = [(stop,) + tuple(goals) for stop in levels]
    winds = 0
    while stands:
        reached = mark_stands(table, levels, stands, winds)
        stands = stands_a_wind_ahead(levels, live, reached)
        winds = winds + 1
    return table


def live_stops(depths, dead):
    stops = []
    for level in range(len(depths)):
        if level not in dead:
            stops.extend([wound_place(depths, cage, level) for cage in CAGES])
    return stops


def mark_stands(table, levels, stands, winds):
    # A loading is undone by unloading and an unloading by loading, with no wind between, so what can be
    # reached from these stands without a wind can also reach them, and asks for as many winds as they do.
    waiting = list(stands)
    reached = []
    while waiting:
        stand = waiting.pop()
        if table.get(stand) == NO_ROW:
            table[stand] = winds
            reached.append(stand)
            waiting.extend([after for step, after in stands_handled(levels[stand[0]], stand)])
    return reached


def stands_a_wind_ahead(levels, live, reached):
    rows = {}
    for stand in reached:
        if stand[0] in live:
            rows[stand[1:]] = True
    stands = []
    # A wind can be made from any stop, and leaves the loads' spots as they are.
    for spots in rows:
        stands.extend([(stop,) + spots for stop in levels])
    return stands


def fewest_winds(depths, dead, stand, goals):
    table = fewest_table(depths, dead, goals)
    winds = table[stand]
    if winds == NO_ROW:
        return None
    levels = levels_by_stop(depths)
    came = {stand: None}
    # All stands that the first winds can lead to are kept: which of them goes on best is seen only later.
    reached = spread_out(levels, came, [stand])
    for done in range(winds):
        arrived = wind_first(depths, dead, table, came, reached)
        reached = spread_out(levels, came, arrived)
    # Without a wind the stop stays as it is, so just one of the stands reached last is an end.
    return (winds, steps_to(came, reached[0][:1] + tuple(goals)))


def wind_first(depths, dead, table, came, reached):
    for level in range(len(depths)):
        for cage in CAGES:
            step = ("wind", cage, level)
            arrived = []
            for stand in reached:
                after = stand_after(depths, dead, stand, step)
                # Each wind brings the end nearer by one, so no stand of an earlier wind comes again.
                if after is not None and table[after] == table[stand] - 1:
                    came[after] = (stand, step)
                    arrived.append(after)
            if arrived:
                return arrived
    return []


def spread_out(levels, came, stands):
    found = list(stands)
    at = 0
    while at < len(found):
        stand = found[at]
        for step, after in stands_handled(levels[stand[0]], stand):
            if after not in came:
                came[after] = (stand, step)
                found.append(after)
        at = at + 1
    return found


def steps_to(came, end):
    steps = []
    stand = end
    while came[stand] is not None:
        steps.append(came[stand][1])
        stand = came[stand][0]
    steps.reverse()
    return steps

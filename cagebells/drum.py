"""The drum: the places of two cages that hang on it, and the stops where it rests."""

from cagebells.errors import BadDepths

FEWEST_LEVELS = 2
MOST_LEVELS = 6
GREATEST_DEPTH = 500
CAGES = (0, 1)


def check_depths(depths):
    if len(depths) < FEWEST_LEVELS or len(depths) > MOST_LEVELS:
        raise BadDepths("a shaft has 2 to 6 levels")
    for depth in depths:
        if depth < 0 or depth > GREATEST_DEPTH:
            raise BadDepths("a depth is from 0 to 500")
    for level in range(1, len(depths)):
        if depths[level] <= depths[level - 1]:
            raise BadDepths("each depth is greater than the one before it")


def drum_whole(depths):
    return depths[len(depths) - 1]


def other_place(depths, place):
    return drum_whole(depths) - place


def level_at(depths, depth):
    for level in range(len(depths)):
        if depths[level] == depth:
            return level
    return None


def wound_place(depths, cage, level):
    if cage == 0:
        return depths[level]
    # Each cage's place is the whole less the other's, so this serves both ways.
    return other_place(depths, depths[level])


def all_stops(depths):
    places = []
    for level in range(len(depths)):
        places.append(wound_place(depths, 0, level))
        places.append(wound_place(depths, 1, level))
    # Both cages may be at a level at one place, which would stand twice.
    return sorted(set(places))


def gates_by(depths, place):
    stands = (place, other_place(depths, place))
    return [level for level in range(len(depths)) if depths[level] in stands]

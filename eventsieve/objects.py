"""The objects of an event: a kind, a value and a position each."""

KINDS = 8
RING = 1024


def objects_of(fields):
    found = []
    for start in range(0, len(fields), 3):
        found.append((fields[start], fields[start + 1], fields[start + 2]))
    return found


def ranked_values(objects):
    by_kind = [[] for kind in range(KINDS)]
    for single in objects:
        by_kind[single[0]].append(single[1])
    return [sorted(found, reverse=True) for found in by_kind]


def distance(one, other):
    apart = (one - other) % RING
    return min(apart, RING - apart)


def nearest_place(kind, other):
    return KINDS * kind + other


# For each two kinds, the least distance of two different objects, one of each
# kind. A menu may ask for it often, so it is worked out once an event. Where
# there are no such objects, RING stands: no condition asks for a distance so great.
def nearest_distances(objects):
    nearest = [RING] * (KINDS * KINDS)
    for place, one in enumerate(objects):
        for other in objects[place + 1:]:
            apart = distance(one[2], other[2])
            there = nearest_place(one[0], other[0])
            back = nearest_place(other[0], one[0])
            nearest[there] = min(nearest[there], apart)
            nearest[back] = min(nearest[back], apart)
    return nearest

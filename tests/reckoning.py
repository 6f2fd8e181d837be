"""The same answers reckoned in another way: by fractions, slopes and Euler's rule."""
from fractions import Fraction


def meeting_of(one, other):
    ax, ay, bx, by = one
    cx, cy, dx, dy = other
    below = (bx - ax) * (dy - cy) - (by - ay) * (dx - cx)
    if below == 0:
        return None
    along = Fraction((cx - ax) * (dy - cy) - (cy - ay) * (dx - cx), below)
    along_other = Fraction((cx - ax) * (by - ay) - (cy - ay) * (bx - ax), below)
    if 0 <= along <= 1 and 0 <= along_other <= 1:
        return (ax + along * (bx - ax), ay + along * (by - ay))
    return None


def vertices_of(segments):
    found = set()
    for segment in segments:
        found.add((Fraction(segment[0]), Fraction(segment[1])))
        found.add((Fraction(segment[2]), Fraction(segment[3])))
        for other in segments:
            place = meeting_of(segment, other)
            if place is not None:
                found.add(place)
    return sorted(found)


def how_far_along(segment, place):
    """From 0 at the first end to 1 at the second, or None off the segment."""
    ax, ay, bx, by = segment
    axis = 0 if ax != bx else 1
    along = (place[axis] - segment[axis]) / (segment[axis + 2] - segment[axis])
    if (ax + along * (bx - ax), ay + along * (by - ay)) == place and 0 <= along <= 1:
        return along
    return None


def edges_of(segments, vertices):
    found = set()
    for segment in segments:
        stops = []
        for number, place in enumerate(vertices):
            along = how_far_along(segment, place)
            if along is not None:
                stops.append((along, number))
        stops.sort()
        for (_, a), (_, b) in zip(stops, stops[1:]):
            found.add((min(a, b), max(a, b)))
    return sorted(found)


def bearing(centre, place):
    """Grows while one turns left from the way straight to the right."""
    across = place[0] - centre[0]
    up = place[1] - centre[1]
    if up == 0:
        return (0, 0) if across > 0 else (2, 0)
    return (1 if up > 0 else 3, -across / up)


def neighbours_of(number, vertices, edges):
    found = [b if a == number else a for a, b in edges if number in (a, b)]
    return sorted(found, key=lambda other: bearing(vertices[number], vertices[other]))


def pieces_of(vertices, edges):
    left = set(range(len(vertices)))
    pieces = 0
    while left:
        pieces += 1
        waiting = [left.pop()]
        while waiting:
            here = waiting.pop()
            for other in neighbours_of(here, vertices, edges):
                if other in left:
                    left.remove(other)
                    waiting.append(other)
    return pieces


def map_answer(segments):
    vertices = vertices_of(segments)
    edges = edges_of(segments, vertices)
    pieces = pieces_of(vertices, edges)
    return [len(vertices), len(edges), 1 + pieces + len(edges) - len(vertices), pieces]


def vertex_answers(segments):
    vertices = vertices_of(segments)
    edges = edges_of(segments, vertices)
    answers = []
    for number, (across, up) in enumerate(vertices):
        ring = neighbours_of(number, vertices, edges)
        place = [across.numerator, across.denominator, up.numerator, up.denominator]
        answers.append([len(ring)] + place + ring)
    return answers

"""Shapes that the tests' maps are made of, and all answers of one kind for a map."""
from landmap.faces import cycle, edge, face, map_of


def ring(*corners):
    """The segments from corner to corner, and back to the first."""
    return [list(corners[k - 1]) + list(corners[k]) for k in range(len(corners))]


def box(left, low, right, high):
    return ring((left, low), (right, low), (right, high), (left, high))


def all_edges_of(segments):
    return [edge(i, segments) for i in range(map_of(segments)[1])]


def all_faces_of(segments):
    return [face(i, segments) for i in range(map_of(segments)[2])]


def all_cycles_of(segments):
    """For each face all its cycles."""
    return [[cycle(f, k, segments) for k in range(answer[0])] for f, answer in enumerate(all_faces_of(segments))]


def turned(segments):
    """The same segments in another order, each told from its other end."""
    return [segment[2:] + segment[:2] for segment in reversed(segments)]

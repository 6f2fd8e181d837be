"""The same edges, faces and cycles reckoned in another way: by upright slabs that are cut into rooms and joined again.

Between two vertices' places across, one behind the other, no edge begins or ends: the edges there lie over one
another and part the slab into rooms. Rooms of neighbouring slabs are one face where no edge stands between them.
"""
from fractions import Fraction

from reckoning import edges_of, how_far_along, neighbours_of, vertices_of


class Rooms:
    """Rooms by slab and by height, from the lowest on, and which of them are joined."""

    def __init__(self, segments):
        self.vertices = vertices_of(segments)
        self.edges = edges_of(segments, self.vertices)
        self.walls = sorted({across for across, _ in self.vertices})
        # The first and the last slab have no edges and no end.
        self.floors = [[]] + [self.floors_between(*pair) for pair in zip(self.walls, self.walls[1:])] + [[]]
        self.joined = {(s, h): (s, h) for s, floors in enumerate(self.floors) for h in range(len(floors) + 1)}
        # From each room those that are beside it, each with how many edges stand between: 0 or 1.
        self.beside = {room: [] for room in self.joined}
        for slab, floors in enumerate(self.floors):
            for height in range(len(floors)):
                self.put_beside((slab, height), (slab, height + 1), 1)
        for number, across in enumerate(self.walls):
            self.join_through(number, across)

    def floors_between(self, left, right):
        spanning = [pair for pair in self.edges if self.across(pair[0]) <= left and self.across(pair[1]) >= right]
        return sorted(spanning, key=lambda pair: self.height(pair, (left + right) / 2))

    def across(self, number):
        return self.vertices[number][0]

    def height(self, pair, across):
        (ax, ay), (bx, by) = self.vertices[pair[0]], self.vertices[pair[1]]
        return ay + (across - ax) * (by - ay) / (bx - ax)

    def join_through(self, number, across):
        """Join the rooms at both sides of a wall wherever they share more than a point that no edge shuts."""
        sides = [[self.height(pair, across) for pair in self.floors[number + k]] for k in (0, 1)]
        shut = [pair for pair in self.edges if self.across(pair[0]) == self.across(pair[1]) == across]
        stops = {up for x, up in self.vertices if x == across} | set(sides[0]) | set(sides[1])
        stops = sorted(stops)
        gaps = [stops[0] - 1] + [(a + b) / 2 for a, b in zip(stops, stops[1:])] + [stops[-1] + 1]
        for up in gaps:
            is_shut = any(self.vertices[a][1] < up < self.vertices[b][1] for a, b in shut)
            low, high = [sum(floor < up for floor in side) for side in sides]
            self.put_beside((number, low), (number + 1, high), 1 if is_shut else 0)
            if not is_shut:
                self.join((number, low), (number + 1, high))

    def put_beside(self, one, other, edges):
        self.beside[one].append((other, edges))
        self.beside[other].append((one, edges))

    def join(self, one, other):
        self.joined[self.root(one)] = self.root(other)

    def root(self, room):
        while self.joined[room] != room:
            room = self.joined[room]
        return room

    def at_left(self, start, end):
        """The room at the left of a dart, somewhere along it."""
        (ax, ay), (bx, by) = self.vertices[start], self.vertices[end]
        if ax == bx:
            wall = self.walls.index(ax)
            slab = wall if ay < by else wall + 1
            heights = [self.height(pair, ax) for pair in self.floors[slab]]
            return self.root((slab, sum(floor < (ay + by) / 2 for floor in heights)))
        slab = self.walls.index(min(ax, bx)) + 1
        floor = self.floors[slab].index((min(start, end), max(start, end)))
        return self.root((slab, floor + 1 if ax < bx else floor))

    def at(self, across, up):
        """The room of a place that is on no edge."""
        slab = sum(wall < across for wall in self.walls)
        heights = [self.height(pair, across) for pair in self.floors[slab]]
        return (slab, sum(floor < up for floor in heights))

    def edges_on_the_way(self, start):
        """For each room how few edges stand on a way there, from room to room."""
        found = {start: 0}
        waiting = [start]
        while waiting:
            room = waiting.pop(0)
            for other, edges in self.beside[room]:
                if other not in found or found[room] + edges < found[other]:
                    found[other] = found[room] + edges
                    waiting.append(other)
        return found

    def area(self, root):
        """What the rooms of one root, none of them without end, cover together."""
        total = Fraction(0)
        for slab, room in self.joined:
            if self.root((slab, room)) == root:
                left, right = self.walls[slab - 1], self.walls[slab]
                low, high = self.floors[slab][room - 1], self.floors[slab][room]
                middle = (left + right) / 2
                total += (right - left) * (self.height(high, middle) - self.height(low, middle))
        return total


def pieces_by_vertex(vertices, edges):
    """For each vertex the least vertex of its piece."""
    pieces = {}
    for number in range(len(vertices)):
        waiting = [number]
        while waiting:
            here = waiting.pop()
            if here not in pieces:
                pieces[here] = number
                waiting += neighbours_of(here, vertices, edges)
    return pieces


class Plan:
    """The rooms of a map that has segments, with its faces in order."""

    def __init__(self, segments):
        self.rooms = Rooms(segments)
        self.vertices = self.rooms.vertices
        self.edges = self.rooms.edges
        self.darts = sorted(self.edges + [(b, a) for a, b in self.edges])
        self.lefts = {dart: self.rooms.at_left(*dart) for dart in self.darts}
        self.pieces = pieces_by_vertex(self.vertices, self.edges)
        # What is furthest left of a face's border is on its own cycle, so its first dart is its own cycle's.
        self.faces = [self.rooms.root((0, 0))]
        for dart in self.darts:
            if self.lefts[dart] not in self.faces:
                self.faces.append(self.lefts[dart])

    def edge_answers(self):
        sides = [[self.lefts[a, b], self.lefts[b, a]] for a, b in self.edges]
        return [[*pair, *map(self.faces.index, roots)] for pair, roots in zip(self.edges, sides)]

    def face_answers(self):
        areas = [self.rooms.area(root) for root in self.faces[1:]]
        # What is within face 0 covers all the others together.
        areas = [-sum(areas, Fraction(0))] + areas
        borders = [self.borders(root) for root in self.faces]
        return [[len(border), area.numerator, area.denominator] for border, area in zip(borders, areas)]

    def cycle_answers(self):
        """For each face what cycle answers for each of its cycles."""
        return [[self.walk(border) for border in self.borders(root)] for root in self.faces]

    def borders(self, root):
        """The darts that have the face at their left, by pieces: a piece has one cycle in each face it borders on."""
        borders = {}
        for dart in self.darts:
            if self.lefts[dart] == root:
                borders.setdefault(self.pieces[dart[0]], []).append(dart)
        return list(borders.values())

    def walk(self, border):
        """How many darts, then where they begin, one behind the other from the first on."""
        walked = [border[0]]
        dart = self.behind(border[0])
        while dart != border[0]:
            walked.append(dart)
            dart = self.behind(dart)
        return [len(walked)] + [start for start, _ in walked]

    def behind(self, dart):
        ring = neighbours_of(dart[1], self.vertices, self.edges)
        return (dart[1], ring[ring.index(dart[0]) - 1])

    def locate_answer(self, point):
        place = place_of(point)
        if place in self.vertices:
            return [0, self.vertices.index(place)]
        for number, (a, b) in enumerate(self.edges):
            if how_far_along(self.vertices[a] + self.vertices[b], place) is not None:
                return [1, number]
        return [2, self.faces.index(self.rooms.root(self.rooms.at(*place)))]

    def cross_answer(self, one, other):
        if any(self.locate_answer(point)[0] != 2 for point in (one, other)):
            return [-5]
        start, goal = [self.rooms.at(*place_of(point)) for point in (one, other)]
        return [self.rooms.edges_on_the_way(start)[goal]]


def place_of(point):
    return (Fraction(point[0], point[1]), Fraction(point[2], point[3]))

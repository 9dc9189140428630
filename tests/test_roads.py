"""Roads over all corners, their turns, and the walks of roads."""

import unittest
from itertools import combinations

from huesandrounds.errors import InvalidCorner, InvalidEdge, TooMany
from huesandrounds.roads import closed, count_roads, ends, is_road, partners, road_walk, roads, turns, walked
from tests.brute import all_paths, all_rounds, classes, corners_of, edges_at, edges_of, edges_on, ends_of, tied_to
from tests.support import F, K, P, R, ball, bent, drawn, drum, odd_integers, odd_values, some_bodies


def slow_is_road(body, some):
    at = sorted(sum(edge in some for edge in edges_at(corner)) for corner in corners_of(body))
    return at == [1, 1] + [2] * (len(at) - 2) and len(classes(some, lambda edge: tied_to(body, edge, some))) == 1


def slow_ends(body, road):
    return tuple(corner for corner in corners_of(body) if sum(edge in road for edge in edges_at(corner)) == 1)


def slow_turn(body, road, end, edge):
    """The road behind a turn at an end, with one of its edges that the road has not."""
    other = [corner for corner in ends_of(body, edge) if corner != end][0]
    for gone in edges_at(other):
        rest = tuple(sorted(set(road) - {gone}))
        # The nearer edge at the other corner is the one without which this corner is cut from the end.
        if gone in road and not leads(body, rest, end, other):
            return tuple(sorted(rest + (edge,)))


def leads(body, some, start, aim):
    met = {start}
    ahead = [start]
    while ahead:
        here = ahead.pop()
        for edge in edges_at(here):
            for there in ends_of(body, edge):
                if edge in some and there not in met:
                    met.add(there)
                    ahead.append(there)
    return aim in met


def slow_turns(body, road, end):
    last = [corner for corner in slow_ends(body, road) if corner != end][0]
    free = [edge for edge in edges_at(end) if edge not in road and last not in ends_of(body, edge)]
    return sorted(slow_turn(body, road, end, edge) for edge in free)


def slow_walk(body, tour, edge, corner):
    """The walk of roads, and the round to which it leads."""
    gone = [other for other in edges_at(corner) if other in tour and other != edge][0]
    road = tuple(sorted(set(tour) - {gone}))
    walk = [road]
    while True:
        end = [item for item in slow_ends(body, road) if item != corner][0]
        other = [item for item in edges_at(end) if item not in road and item != gone][0]
        if corner in ends_of(body, other):
            return walk, tuple(sorted(road + (other,)))
        behind = slow_turn(body, road, end, other)
        gone = [item for item in road if item not in behind][0]
        road = behind
        walk.append(road)


class Roads(unittest.TestCase):
    def test_all_lots_of_edges(self):
        for body in (F, P):
            many = 0
            for some in combinations(edges_of(body), 2 * len(body) - 5):
                self.assertIs(is_road(body, some), slow_is_road(body, some))
                many += slow_is_road(body, some)
            found = {road for corner in corners_of(body) for road in roads(body, corner)}
            self.assertEqual(len(found), many)

    def test_roads(self):
        for body in some_bodies(4, 8, 2) + [K]:
            for corner in corners_of(body)[::3]:
                slow = sorted(edges_on(path) for path in all_paths(body, corner))
                self.assertEqual(roads(body, corner), slow)
                for last in corners_of(body):
                    many = sum(corner != last and last in slow_ends(body, road) for road in slow)
                    self.assertEqual(count_roads(body, corner, last), many)
                    self.assertEqual(count_roads(body, last, corner), many)
                self.assertEqual(count_roads(body, corner, corner), 0)

    def test_ends_closed_and_turns(self):
        for body in some_bodies(4, 8, 1) + [K]:
            for road in roads(body, corners_of(body)[1])[::4]:
                self.assertIs(is_road(body, road), True)
                both = slow_ends(body, road)
                self.assertEqual(ends(body, road), both)
                tours = [tour for tour in all_rounds(body) if set(road) < set(tour)]
                self.assertEqual([closed(body, road)], tours or [None])
                for corner in corners_of(body):
                    if corner in both:
                        told = turns(body, road, corner)
                        self.assertEqual(told, slow_turns(body, road, corner))
                        self.assertIn(len(told), (1, 2))
                        last = [item for item in both if item != corner][0]
                        self.assertTrue(all(is_road(body, other) and last in ends(body, other) for other in told))
                    else:
                        with self.assertRaises(InvalidCorner):
                            turns(body, road, corner)

    def test_great_bodies(self):
        for body in (ball(), drum(10), drawn(12, 4)):
            tour = all_rounds(body)[-1]
            for at in range(0, len(tour), 3):
                road = tour[:at] + tour[at + 1:]
                self.assertTrue(is_road(body, road))
                self.assertEqual(closed(body, road), tour)
                for corner in ends(body, road):
                    for other in turns(body, road, corner):
                        self.assertEqual(turns(body, other, [item for item in ends(body, other)
                                                             if item not in ends(body, road)][0]).count(road), 1)

    def test_no_roads(self):
        for body in (F, P, K, ball()):
            for road in (all_rounds(body)[0][1:], all_rounds(body)[-1][:-1]):
                for number, value in enumerate(odd_values() + odd_integers() + bent(road)):
                    self.assertIs(is_road(body, value), False, number)
                for at in range(len(road)):
                    for edge in edges_of(body):
                        other = tuple(sorted(road[:at] + (edge,) + road[at + 1:]))
                        self.assertIs(is_road(body, other), len(set(other)) == len(road) and slow_is_road(body, other))

    def test_a_ring_and_a_lesser_road_are_no_road(self):
        # At two corners there is one edge, at all others two, but it is in two parts.
        some = ((0, 1), (0, 2), (0, 3), (0, 4), (1, 5), (2, 5), (3, 5))
        self.assertEqual([sum(edge in some for edge in edges_at(corner)) for corner in corners_of(K)].count(1), 2)
        self.assertIs(is_road(K, some), False)

    def test_too_many_faces_come_last(self):
        for body in (drawn(9, 1), ball()):
            one, other = corners_of(body)[:2]
            edge = edges_at(one)[0]
            for call, args in ((count_roads, (one, other)), (roads, (one,)), (partners, (edge, one))):
                with self.assertRaises(TooMany) as caught:
                    call(body, *args)
                self.assertEqual(caught.exception.limit, 8)
            with self.assertRaises(InvalidCorner):
                count_roads(body, one, None)
            with self.assertRaises(InvalidCorner):
                partners(body, edge, [item for item in corners_of(body) if item not in ends_of(body, edge)][0])


class Walks(unittest.TestCase):
    def test_walks(self):
        for body in some_bodies(4, 12, 1) + [K, ball()]:
            for tour in all_rounds(body)[:4]:
                for edge in tour[::3]:
                    for corner in ends_of(body, edge):
                        walk, aim = slow_walk(body, tour, edge, corner)
                        self.assertEqual(road_walk(body, tour, edge, corner), tuple(walk))
                        self.assertEqual(walked(body, tour, edge, corner), aim)
                        self.assertIn(aim, all_rounds(body))
                        self.assertIn(edge, aim)
                        self.assertNotEqual(aim, tour)
                        self.assertEqual(road_walk(body, aim, edge, corner), tuple(walk[::-1]))
                        self.assertEqual(walked(body, aim, edge, corner), tour)

    def test_wrong_edges_and_corners(self):
        for body in (F, K, ball()):
            tour = all_rounds(body)[0]
            for call in (road_walk, walked):
                for edge in edges_of(body):
                    for corner in corners_of(body):
                        if edge not in tour:
                            with self.assertRaises(InvalidEdge):
                                call(body, tour, edge, corner)
                        elif corner not in ends_of(body, edge):
                            with self.assertRaises(InvalidCorner):
                                call(body, tour, edge, corner)

    def test_partners(self):
        for body in some_bodies(4, 8, 2) + [K]:
            for edge in edges_of(body)[::2]:
                for corner in ends_of(body, edge):
                    found = partners(body, edge, corner)
                    tours = [tour for tour in all_rounds(body) if edge in tour]
                    told = {tuple(sorted((tour, slow_walk(body, tour, edge, corner)[1]))) for tour in tours}
                    self.assertEqual(found, sorted(told))
                    self.assertEqual(sorted(tour for both in found for tour in both), tours)

    def test_example(self):
        self.assertEqual(partners(F, (0, 1), (0, 1, 2)), [(R, ((0, 1), (0, 3), (1, 2), (2, 3)))])

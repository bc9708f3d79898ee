"""threadslide/rooms.py: points 8 to 10 of the document, and the refusals of the interface."""

import inspect
import unittest
from unittest import mock

from model import GREATEST, Dice, To, kept_of, places_of, pushed_boxes, row_of, things_of, used_by
from threadslide import rooms
from threadslide.errors import BadSize, BadThing, NoBox, NoField, NoRoom, SlideError
from threadslide.rooms import Room

METHODS = {
    "__init__": ["self", "size", "doors"],
    "made": ["self", "things"],
    "put": ["self", "place", "field", "thing"],
    "told": ["self", "place"],
    "places": ["self"],
    "come_to": ["self"],
    "pushed": ["self"],
    "used": ["self"],
    "cells": ["self"],
}
# What equals a whole number, or looks like one, is none for that; mock.ANY equals whatever it is compared with.
NO_WHOLE_NUMBERS = (True, False, None, "", "0", "1", "box", 0.0, 1.0, 2.5, float("nan"), float("inf"), 1 + 0j, b"1",
                    [], [0], [1], (), (0,), (1,), ("number", 1), {}, {0: 1}, set(), {1}, range(1), object(), int,
                    len, mock.ANY, 10 ** 60, -(10 ** 60), 10 ** 60 + 1, 10 ** 5000, -(10 ** 5000))
BAD_THINGS = (
    ("numbers", 1), ("Number", 1), ("boxes", 0), ("BOX", 0), ("", 0), ("link", 0), (" box", 0), ("door", 0),
    (mock.ANY, 0), ("number", mock.ANY), ("box", mock.ANY), mock.ANY,
    (None, 0), (0, 0), (1, "number"), (b"box", 0), (b"number", 1), (["number"], 1), (("box",), 0), (True, 1),
    (), ("number",), ("box",), ("number", 1, 2), ("box", 0, 0), ("number", 1, None), ("box", 0, 0, 0),
    ["number", 1], ["box", 0], [], [("number", 1)], [("box", 0)], (("number", 1),), (("box", 0),),
    ("number", True), ("number", False), ("number", None), ("number", "1"), ("number", [1]), ("number", (1,)),
    ("number", 1.0), ("number", {}), ("number", ("number", 1)), ("number", 10 ** 60), ("number", -(10 ** 60)),
    ("box", True), ("box", False), ("box", None), ("box", "0"), ("box", [0]), ("box", (0,)), ("box", 0.0),
    ("box", {}), ("box", ("box", 0)), ("box", 10 ** 60), ("box", -(10 ** 60)), ("box", 10 ** 5000),
    None, True, False, 0, 1, 7, "number", "box", "nu", "", b"", 1.5, {}, {"number": 1}, {"number": 1, "box": 0},
    set(), range(2), object(), tuple, GREATEST,
)


def state(room):
    return room.cells(), room.places(), room.come_to(), room.used(), [room.told(place) for place in room.places()]


class RoomCase(unittest.TestCase):
    def assert_refused(self, kind, call, *handed):
        """The call is refused by just this class, which is a SlideError and a ValueError."""
        with self.assertRaises(SlideError) as caught:
            call(*handed)
        self.assertIs(type(caught.exception), kind)
        self.assertIsInstance(caught.exception, ValueError)

    def assert_refused_for_nothing(self, kind, room, call, *handed):
        """The call is refused, and all that the room tells is as before."""
        before = state(room)
        self.assert_refused(kind, call, *handed)
        self.assertEqual(state(room), before)

    def assert_room(self, room, boxes, size):
        """The room holds just these boxes in so many cells."""
        self.assertEqual(room.cells(), row_of(boxes, size))
        self.assertEqual(room.places(), places_of(boxes))
        self.assertEqual(room.used(), used_by(boxes))
        self.assertEqual([room.told(place) for place in places_of(boxes)], things_of(boxes))
        self.assertEqual(room.come_to(), [places_of(boxes)[k] for k in kept_of(boxes)])


class SizeTest(RoomCase):
    def test_all_sizes_with_a_door_without_fields(self):
        for size in range(1, 401):
            room = Room(size, 0)
            self.assertEqual(room.cells(), [0] * size)
            self.assertEqual(room.used(), 1)
            self.assertEqual(room.places(), [0])
            self.assertEqual(room.told(0), [])

    def test_sizes_that_are_none(self):
        for size in (0, -1, -400, 401, 402, 1000, GREATEST, -GREATEST):
            with self.subTest(size=size):
                self.assert_refused(BadSize, Room, size, 0)

    def test_all_doors(self):
        for doors in range(21):
            with self.subTest(doors=doors):
                for size in (doors + 1, doors + 2, 400):
                    self.assert_room(Room(size, doors), [[0] * doors], size)

    def test_doors_that_are_none(self):
        for doors in (-1, -20, 21, 22, 399, 400, GREATEST, -GREATEST):
            for size in (1, 22, 23, 400):
                with self.subTest(doors=doors, size=size):
                    self.assert_refused(BadSize, Room, size, doors)

    def test_a_door_has_to_have_room(self):
        for doors in range(1, 21):
            with self.subTest(doors=doors):
                self.assert_refused(BadSize, Room, doors, doors)
                self.assert_refused(BadSize, Room, 1, doors)
                self.assertEqual(Room(doors + 1, doors).used(), doors + 1)

    def test_no_whole_numbers(self):
        # Counted, as Python refuses to write the longest of them out.
        for k, wrong in enumerate(NO_WHOLE_NUMBERS):
            with self.subTest(k=k):
                self.assert_refused(BadSize, Room, wrong, 0)
                self.assert_refused(BadSize, Room, 30, wrong)
                self.assert_refused(BadSize, Room, wrong, wrong)
                self.assert_refused(BadSize, Room, wrong, 21)
                self.assert_refused(BadSize, Room, 0, wrong)


class FirstTest(RoomCase):
    def test_a_room_has_just_the_door(self):
        room = Room(6, 2)
        self.assertEqual(room.cells(), [8, 0, 0, 0, 0, 0])
        self.assertEqual(room.places(), [0])
        self.assertEqual(room.come_to(), [0])
        self.assertEqual(room.told(0), [("number", 0), ("number", 0)])
        self.assertEqual(room.used(), 3)

    def test_rooms_do_not_share_their_cells(self):
        one, other = Room(9, 1), Room(9, 1)
        one.made([("number", 5)])
        one.put(0, 0, ("number", 7))
        self.assert_room(other, [[0]], 9)


class MadeTest(RoomCase):
    def test_a_box_of_no_thing(self):
        room = Room(4, 1)
        self.assertEqual(room.made([]), 2)
        self.assert_room(room, [[0], []], 4)

    def test_a_box_of_numbers(self):
        room = Room(9, 1)
        self.assertEqual(room.made([("number", 5), ("number", -6), ("number", 0)]), 2)
        self.assertEqual(room.cells(), [4, 0, 12, 10, -12, 0, 0, 0, 0])
        self.assertEqual(room.told(2), [("number", 5), ("number", -6), ("number", 0)])

    def test_a_box_of_boxes(self):
        room = Room(12, 1)
        self.assertEqual(room.made([("box", 0)]), 2)
        self.assertEqual(room.made([("box", 2), ("box", 0), ("box", 2), ("number", 2)]), 4)
        self.assertEqual(room.cells(), [4, 0, 4, 1, 16, 5, 1, 5, 4, 0, 0, 0])
        self.assert_room(room, [[0], [To(0)], [To(1), To(0), To(1), 2]], 12)

    def test_boxes_stand_side_by_side(self):
        room = Room(400, 3)
        boxes = [[0, 0, 0]]
        for many in (0, 1, 5, 20, 0, 40, 2):
            place = used_by(boxes)
            self.assertEqual(room.made([("number", k) for k in range(many)]), place)
            boxes.append(list(range(many)))
            self.assert_room(room, boxes, 400)

    def test_numbers_of_sixty_figures(self):
        room = Room(9, 1)
        things = [("number", GREATEST), ("number", -GREATEST)]
        self.assertEqual(room.made(things), 2)
        self.assertEqual(room.told(2), things)
        self.assertEqual(room.cells()[3:5], [2 * GREATEST, -2 * GREATEST])

    def test_a_number_that_looks_like_a_place_is_a_number(self):
        room = Room(20, 1)
        room.made([("number", 0), ("number", 2), ("number", 1)])
        room.put(0, 0, ("number", 2))
        self.assertEqual(room.told(2), [("number", 0), ("number", 2), ("number", 1)])
        self.assertEqual(room.come_to(), [0])

    def test_nothing_is_pushed_together_by_that(self):
        room = Room(7, 0)
        for place in range(1, 7):
            self.assertEqual(room.made([]), place)
            self.assertEqual(room.come_to(), [0])
        self.assert_refused_for_nothing(NoRoom, room, room.made, [])

    def test_the_list_handed_in_stays(self):
        room = Room(20, 1)
        things = [("number", 5), ("box", 0)]
        room.made(things)
        self.assertEqual(things, [("number", 5), ("box", 0)])
        things[:] = [("number", 9)] * 5
        self.assertEqual(room.told(2), [("number", 5), ("box", 0)])


class MadeRefusesTest(RoomCase):
    def test_each_kind_of_wrong_thing(self):
        for k, wrong in enumerate(BAD_THINGS):
            with self.subTest(k=k):
                room = Room(30, 2)
                room.made([("number", 8), ("box", 0)])
                for things in ([wrong], [("number", 1), wrong], [wrong, ("box", 3)], [("box", 0), wrong, wrong]):
                    self.assert_refused_for_nothing(BadThing, room, room.made, things)
                self.assertEqual(room.made([("box", 3)]), 6)

    def test_places_that_are_none(self):
        room = Room(30, 2)
        self.assertEqual(room.made([("number", 3), ("box", 0)]), 3)
        self.assertEqual(room.made([]), 6)
        # 7 is the place where the new box itself will stand.
        for wrong in (-1, -3, -30, 1, 2, 4, 5, 7, 8, 29, 30, 31, 400, GREATEST, -GREATEST):
            with self.subTest(wrong=wrong):
                for things in ([("box", wrong)], [("box", 3), ("box", wrong)], [("box", wrong), ("number", 1)]):
                    self.assert_refused_for_nothing(NoBox, room, room.made, things)
        self.assertEqual(room.made([("box", 0), ("box", 3), ("box", 6)]), 7)

    def test_just_enough_cells_and_too_few(self):
        for size in (2, 3, 10, 50, 400):
            for doors in (0, 1, 20):
                free = size - doors - 1
                if free < 1:
                    continue
                with self.subTest(size=size, doors=doors):
                    room = Room(size, doors)
                    self.assert_refused_for_nothing(NoRoom, room, room.made, [("number", 1)] * free)
                    self.assert_refused_for_nothing(NoRoom, room, room.made, [("box", 0)] * (free + 1))
                    self.assertEqual(room.made([("number", 1)] * (free - 1)), doors + 1)
                    self.assertEqual(room.used(), size)
                    self.assert_refused_for_nothing(NoRoom, room, room.made, [])

    def test_a_room_that_the_door_fills(self):
        for doors in (0, 1, 20):
            room = Room(doors + 1, doors)
            self.assert_refused_for_nothing(NoRoom, room, room.made, [])

    def test_a_smaller_box_can_still_be_made(self):
        room = Room(6, 1)
        self.assert_refused_for_nothing(NoRoom, room, room.made, [("number", 1)] * 4)
        self.assertEqual(room.made([("number", 1)] * 3), 2)
        self.assert_room(room, [[0], [1, 1, 1]], 6)

    def test_where_several_are_wrong_the_first_named_is_told(self):
        room = Room(5, 1)
        room.made([])
        bad, none, much = ("number", None), ("box", 1), [("number", 1)] * 9
        for kind, things in ((BadThing, [none, bad]), (BadThing, [bad, none]), (BadThing, much + [bad]),
                             (BadThing, [bad] + much), (BadThing, [none] + much + [bad]), (NoBox, much + [none]),
                             (NoBox, [none] + much), (NoRoom, much)):
            with self.subTest(things=things):
                self.assert_refused_for_nothing(kind, room, room.made, things)
        self.assertEqual(room.made([("number", 1)]), 3)

    def test_in_a_full_room_too(self):
        room = Room(1, 0)
        self.assert_refused_for_nothing(BadThing, room, room.made, [None])
        self.assert_refused_for_nothing(NoBox, room, room.made, [("box", 1)])
        self.assert_refused_for_nothing(NoRoom, room, room.made, [("box", 0)])


class PutTest(RoomCase):
    def setUp(self):
        self.room = Room(20, 2)
        self.room.made([("number", 5), ("box", 0), ("number", 7)])
        self.room.made([("box", 3)])
        self.boxes = [[0, 0], [5, To(0), 7], [To(1)]]

    def test_each_field_gets_another_thing(self):
        places = (0, 3, 7)
        for k, fields in enumerate(self.boxes):
            for field in range(len(fields)):
                for thing, told in ((("number", -9), -9), (("box", 7), To(2)), (("box", 0), To(0)),
                                    (("number", GREATEST), GREATEST), (("box", 3), To(1)), (("number", 3), 3)):
                    with self.subTest(place=places[k], field=field, thing=thing):
                        self.assertIsNone(self.room.put(places[k], field, thing))
                        fields[field] = told
                        self.assert_room(self.room, self.boxes, 20)

    def test_what_can_be_come_to_by_what_was_put(self):
        self.assertEqual(self.room.come_to(), [0])
        self.room.put(0, 1, ("box", 7))
        self.assertEqual(self.room.come_to(), [0, 3, 7])
        self.room.put(7, 0, ("number", 3))
        self.assertEqual(self.room.come_to(), [0, 7])
        self.room.put(0, 1, ("number", 7))
        self.assertEqual(self.room.come_to(), [0])

    def test_places_that_are_none(self):
        for wrong in (-1, 1, 2, 4, 5, 6, 8, 9, 19, 20, 400, GREATEST, -GREATEST) + NO_WHOLE_NUMBERS:
            self.assert_refused_for_nothing(NoBox, self.room, self.room.put, wrong, 0, ("number", 1))
        self.assertEqual(self.room.made([]), 9)

    def test_fields_that_are_none(self):
        for place, many in ((0, 2), (3, 3), (7, 1)):
            for wrong in (-1, -2, -many, many, many + 1, 400, GREATEST, -GREATEST) + NO_WHOLE_NUMBERS:
                self.assert_refused_for_nothing(NoField, self.room, self.room.put, place, wrong, ("number", 1))
        self.assertEqual(self.room.made([]), 9)

    def test_a_box_without_fields_has_no_field(self):
        place = self.room.made([])
        for wrong in (0, 1, -1):
            self.assert_refused_for_nothing(NoField, self.room, self.room.put, place, wrong, ("number", 1))

    def test_things_that_are_none(self):
        for wrong in BAD_THINGS:
            self.assert_refused_for_nothing(BadThing, self.room, self.room.put, 3, 1, wrong)
        self.assertEqual(self.room.made([]), 9)

    def test_things_that_lead_to_no_box(self):
        for wrong in (-1, 1, 2, 4, 5, 6, 8, 9, 19, 20, 400, GREATEST, -GREATEST):
            self.assert_refused_for_nothing(NoBox, self.room, self.room.put, 3, 1, ("box", wrong))
        self.assertEqual(self.room.made([]), 9)

    def test_the_order_of_the_refusals(self):
        wrong_things = (("box", None), ("box", 1), None)
        for thing in wrong_things + (("number", 1),):
            for field in (-1, 0, 3, None):
                self.assert_refused_for_nothing(NoBox, self.room, self.room.put, 1, field, thing)
                self.assert_refused_for_nothing(NoBox, self.room, self.room.put, False, field, thing)
            for field in (-1, 3, None, True):
                self.assert_refused_for_nothing(NoField, self.room, self.room.put, 3, field, thing)
        self.assert_refused_for_nothing(BadThing, self.room, self.room.put, 3, 0, ("box", None))
        self.assert_refused_for_nothing(BadThing, self.room, self.room.put, 3, 0, ("door", 1))
        self.assert_refused_for_nothing(NoBox, self.room, self.room.put, 3, 0, ("box", 1))

    def test_a_full_room_lets_things_be_put(self):
        room = Room(2, 1)
        self.assertIsNone(room.put(0, 0, ("box", 0)))
        self.assert_room(room, [[To(0)]], 2)


class ToldTest(RoomCase):
    def test_places_that_are_none(self):
        room = Room(12, 1)
        room.made([("number", 5), ("box", 0)])
        for wrong in (-1, -2, 1, 3, 4, 5, 6, 11, 12, 400, GREATEST, -GREATEST) + NO_WHOLE_NUMBERS:
            self.assert_refused_for_nothing(NoBox, room, room.told, wrong)
        self.assertEqual(room.made([]), 5)

    def test_true_and_false_are_no_places_though_0_and_1_are(self):
        room = Room(4, 0)
        room.made([])
        self.assertEqual(room.places(), [0, 1])
        for wrong in (True, False):
            self.assert_refused_for_nothing(NoBox, room, room.told, wrong)
            self.assert_refused_for_nothing(NoBox, room, room.put, wrong, 0, ("number", 1))
            self.assert_refused_for_nothing(BadThing, room, room.made, [("box", wrong)])
            self.assert_refused_for_nothing(BadThing, room, room.made, [("number", wrong)])


class PushedTest(RoomCase):
    def full_room(self):
        """A room of five boxes, of which those at 3 and at 8 can't be come to."""
        room = Room(20, 2)
        self.assertEqual(room.made([("number", GREATEST), ("box", 0)]), 3)
        self.assertEqual(room.made([("number", 3)]), 6)
        self.assertEqual(room.made([("box", 6), ("box", 3), ("number", 1)]), 8)
        self.assertEqual(room.made([("box", 6), ("number", -GREATEST), ("box", 0)]), 12)
        room.put(0, 1, ("box", 12))
        room.put(12, 2, ("box", 12))
        return room

    def test_a_room_is_pushed_together(self):
        room = self.full_room()
        self.assertEqual(room.come_to(), [0, 6, 12])
        self.assertEqual(room.used(), 16)
        self.assertEqual(room.pushed(), 7)
        self.assertEqual(room.cells(), [8, 0, 11, 4, 6, 12, 7, -2 * GREATEST, 11] + [0] * 11)
        self.assertEqual(room.places(), [0, 3, 5])
        self.assertEqual(room.come_to(), [0, 3, 5])
        self.assertEqual(room.used(), 9)
        self.assertEqual(room.told(0), [("number", 0), ("box", 5)])
        self.assertEqual(room.told(3), [("number", 3)])
        self.assertEqual(room.told(5), [("box", 3), ("number", -GREATEST), ("box", 5)])

    def test_places_of_boxes_that_are_gone_are_none(self):
        room = self.full_room()
        room.pushed()
        for gone in (6, 8, 12):
            self.assert_refused_for_nothing(NoBox, room, room.told, gone)
            self.assert_refused_for_nothing(NoBox, room, room.put, gone, 0, ("number", 1))
            self.assert_refused_for_nothing(NoBox, room, room.put, 5, 0, ("box", gone))
            self.assert_refused_for_nothing(NoBox, room, room.made, [("box", gone)])

    def test_pushed_once_more_it_tells_0(self):
        room = self.full_room()
        room.pushed()
        before = state(room)
        for _ in range(2):
            self.assertEqual(room.pushed(), 0)
            self.assertEqual(state(room), before)

    def test_boxes_made_behind_a_pushing(self):
        room = self.full_room()
        room.pushed()
        self.assertEqual(room.made([("box", 5), ("number", 4)]), 9)
        room.put(3, 0, ("box", 9))
        self.assert_room(room, [[0, To(2)], [To(3)], [To(1), -GREATEST, To(2)], [To(2), 4]], 20)
        self.assertEqual(room.pushed(), 0)

    def test_the_room_that_is_won_can_be_used(self):
        room = Room(6, 1)
        self.assertEqual(room.made([("number", 1)] * 3), 2)
        self.assert_refused_for_nothing(NoRoom, room, room.made, [])
        self.assertEqual(room.pushed(), 4)
        self.assertEqual(room.cells(), [4, 0, 0, 0, 0, 0])
        self.assertEqual(room.made([("box", 0), ("number", 2), ("number", 3)]), 2)
        self.assert_room(room, [[0], [To(0), 2, 3]], 6)
        self.assert_refused_for_nothing(NoRoom, room, room.made, [])

    def test_a_room_with_the_door_alone(self):
        for size, doors in ((1, 0), (2, 1), (400, 0), (400, 20), (21, 20)):
            room = Room(size, doors)
            before = state(room)
            self.assertEqual(room.pushed(), 0)
            self.assertEqual(state(room), before)

    def test_all_but_the_door_goes(self):
        room = Room(400, 0)
        for _ in range(399):
            room.made([])
        self.assertEqual(room.used(), 400)
        self.assertEqual(room.pushed(), 399)
        self.assert_room(room, [[]], 400)

    def test_a_way_through_the_whole_room(self):
        room = Room(400, 1)
        for _ in range(199):
            room.made([("number", 0)])
        for place in range(0, 398, 2):
            room.put(place, 0, ("box", place + 2))
        self.assertEqual(room.pushed(), 0)
        room.put(396, 0, ("box", 0))
        self.assertEqual(room.pushed(), 2)
        self.assertEqual(room.come_to(), list(range(0, 398, 2)))

    def test_a_place_told_ahead_may_be_that_of_another_box(self):
        room = Room(10, 1)
        room.made([("number", 1)])
        last = room.made([("number", 2)])
        room.put(0, 0, ("box", last))
        self.assertEqual(room.pushed(), 2)
        self.assertEqual(room.told(2), [("number", 2)])
        self.assert_refused_for_nothing(NoBox, room, room.told, last)


class LongRunTest(RoomCase):
    """Rooms and the boxes that they should hold, through many steps."""

    def test_thrown_steps(self):
        for seed, size, doors, steps in ((1, 30, 2, 400), (2, 400, 20, 300), (3, 90, 1, 400), (4, 7, 3, 200)):
            with self.subTest(seed=seed):
                self.run_steps(Dice(seed), size, doors, steps)

    def run_steps(self, dice, size, doors, steps):
        room = Room(size, doors)
        boxes = [[0] * doors]
        for _ in range(steps):
            step = dice.below(10)
            if step < 5:
                self.make(dice, room, boxes, size)
            elif step < 9:
                self.put(dice, room, boxes)
            else:
                left = pushed_boxes(boxes)
                self.assertEqual(room.pushed(), used_by(boxes) - used_by(left))
                boxes = left
            self.assert_room(room, boxes, size)

    def make(self, dice, room, boxes, size):
        fields = [dice.field(len(boxes), 5) for _ in range(dice.below(5))]
        things = things_of(boxes + [fields])[-1]
        if used_by(boxes + [fields]) > size:
            self.assert_refused(NoRoom, room.made, things)
        else:
            self.assertEqual(room.made(things), used_by(boxes))
            boxes.append(fields)

    def put(self, dice, room, boxes):
        k = dice.below(len(boxes))
        if boxes[k]:
            field = dice.below(len(boxes[k]))
            boxes[k][field] = dice.field(len(boxes), 6)
            room.put(places_of(boxes)[k], field, things_of(boxes)[k][field])


class ListsTest(RoomCase):
    def room(self):
        room = Room(12, 2)
        room.made([("number", 5), ("box", 0)])
        room.made([])
        room.put(0, 1, ("box", 3))
        return room

    def lists_told(self, room):
        return [room.told(0), room.told(3), room.told(6), room.places(), room.come_to(), room.cells()]

    def test_they_are_lists(self):
        for told in self.lists_told(self.room()):
            self.assertIs(type(told), list)

    def test_they_may_be_changed_without_changing_the_room(self):
        room = self.room()
        before = state(room)
        for told in self.lists_told(room):
            told.append(77)
            told[0] = 99
            self.assertEqual(state(room), before)
        self.assertEqual(room.made([]), 7)

    def test_they_do_not_change_by_later_calls(self):
        room = self.room()
        told = self.lists_told(room)
        before = [list(each) for each in told]
        room.made([("box", 3), ("number", 8)])
        room.put(3, 0, ("number", 9))
        room.put(0, 1, ("number", 9))
        room.put(0, 0, ("box", 7))
        self.assertEqual(told, before)
        self.assertGreater(room.pushed(), 0)
        self.assertEqual(told, before)

    def test_lists_told_ahead_of_a_pushing_that_changes_nothing(self):
        room = Room(5, 1)
        room.put(0, 0, ("box", 0))
        cells = room.cells()
        self.assertEqual(room.pushed(), 0)
        cells[0] = 99
        self.assertEqual(room.cells(), [4, 1, 0, 0, 0])


class InterfaceTest(unittest.TestCase):
    def test_the_class_stands_in_this_file_with_its_methods(self):
        self.assertTrue(inspect.isclass(Room))
        self.assertIs(rooms.Room, Room)
        self.assertEqual(Room.__module__, "threadslide.rooms")
        for name, parameters in METHODS.items():
            with self.subTest(name):
                self.assertTrue(inspect.isfunction(vars(Room)[name]))
                self.assertEqual(list(inspect.signature(vars(Room)[name]).parameters), parameters)


if __name__ == "__main__":
    unittest.main()

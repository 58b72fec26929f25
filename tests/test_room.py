"""Points 5, 6 and 7: the room of the log, how room is made, and where it can't be made."""

import unittest

from helper import BIG, made_day
from quillhouse.cellar import behind
from quillhouse.day import answers, strokes_of
from quillhouse.errors import NoRoom
from quillhouse.house import House

BEGIN = ("begin",)
CUT = ("cut",)


def put_line(dealing, page, old, new):
    return ("line", ("put", dealing, page, old, new))


def end_line(dealing):
    return ("line", ("end", dealing))


class RoomCase(unittest.TestCase):
    def told(self, pages, room, deeds, last_answers, last_strokes):
        self.assertEqual(answers(pages, room, deeds)[-len(last_answers):], last_answers)
        self.assertEqual(strokes_of(pages, room, deeds)[-len(last_strokes):], last_strokes)


class TestSmallRooms(RoomCase):
    def test_room_of_nought(self):
        self.told([5], 0, [BEGIN, BEGIN, ("put", 0, 0, 6), ("carry", 0), CUT, ("look", 0)],
                  ["no room", "no room", "no dealing", "done", "done", 5], [[]] * 6)

    def test_room_of_one(self):
        deeds = [BEGIN, ("put", 0, 0, 6), BEGIN, ("end", 0), BEGIN, ("drop", 2), BEGIN]
        self.told([5], 1, deeds, [0, "no room", "no room", "done", 2, "done", 3],
                  [[], [], [], [end_line(0)], [("cut", 1)], [end_line(2)], [("cut", 1)]])

    def test_room_of_two_has_none_for_a_put(self):
        self.told([5], 2, [BEGIN, ("put", 0, 0, 6), BEGIN, BEGIN], [0, "no room", 1, "no room"], [[]] * 4)

    def test_room_of_three_has_one_put(self):
        deeds = [BEGIN, ("put", 0, 0, 6), ("put", 0, 0, 7), ("drop", 0)]
        self.told([5], 3, deeds, [0, "done", "no room", "done"],
                  [[], [put_line(0, 0, 5, 6)], [("page", 0, 6)], [put_line(0, 0, 6, 5), end_line(0)]])

    def test_each_put_takes_two(self):
        for room in range(12):
            with self.subTest(room=room):
                deeds = [BEGIN] + [("put", 0, 0, number) for number in range(8)]
                told = [0 if room > 0 else "no room"]
                for number in range(8):
                    told.append("no dealing" if room == 0 else "done" if 1 + 2 * (number + 1) <= room else "no room")
                self.assertEqual(answers([-1], room, deeds), told)

    def test_each_begin_takes_one(self):
        for room in range(6):
            with self.subTest(room=room):
                told = [count if count < room else "no room" for count in range(8)]
                self.assertEqual(answers([5], room, [BEGIN] * 8), told)

    def test_house_raises(self):
        house = House([5], 1)
        house.begin()
        self.assertRaises(NoRoom, house.begin)
        self.assertRaises(NoRoom, house.put, 0, 0, 6)
        house.end(0)


class TestExactRoom(RoomCase):
    def test_bound_lines_of_all_open_dealings_count(self):
        # Behind these, the log has 3 lines; 2 + 1 and 1 + 1 and 0 + 1 are bound.
        deeds = [BEGIN, BEGIN, BEGIN, ("put", 0, 0, 6), ("put", 0, 0, 7), ("put", 1, 1, 8)]
        self.told([5, 5, 5], 10, deeds + [BEGIN], [3], [[]])
        self.told([5, 5, 5], 9, deeds + [BEGIN], ["no room"], [[("page", 0, 7), ("page", 1, 8)]])
        self.told([5, 5, 5], 11, deeds + [("put", 2, 2, 9)], ["done"], [[put_line(2, 2, 5, 9)]])
        self.told([5, 5, 5], 10, deeds + [("put", 2, 2, 9)], ["no room"], [[("page", 0, 7), ("page", 1, 8)]])

    def test_ended_dealings_bind_no_lines(self):
        # Behind these, the log has 4 lines and none is bound.
        deeds = [BEGIN, ("put", 0, 0, 6), BEGIN, ("put", 1, 1, 6), ("end", 0), ("end", 1)]
        self.told([5, 5], 6, deeds + [BEGIN, BEGIN], [2, 3], [[], []])
        self.told([5, 5], 6, deeds + [BEGIN, BEGIN, BEGIN], [2, 3, 4],
                  [[], [], [("page", 0, 6), ("page", 1, 6), ("cut", 4)]])

    def test_dropped_dealings_bind_no_lines(self):
        # Behind these, the log has 3 lines and none is bound.
        deeds = [BEGIN, ("put", 0, 0, 6), ("drop", 0)]
        self.told([5], 4, deeds + [BEGIN], [1], [[]])
        self.told([5], 3, deeds + [BEGIN], [1], [[("cut", 3)]])

    def test_put_behind_a_cut_still_binds_a_line(self):
        # Dealing 0's put line is needed as long as it is open, so what it binds and what it has written both stay.
        deeds = [BEGIN, ("put", 0, 0, 6), ("carry", 0), CUT]
        self.told([5], 3, deeds + [BEGIN], ["no room"], [[]])
        self.told([5], 4, deeds + [BEGIN], [1], [[]])

    def test_end_and_drop_fill_the_room_to_its_end(self):
        deeds = [BEGIN, ("put", 0, 0, 6), ("put", 0, 0, 7), ("drop", 0)]
        strokes = strokes_of([5], 5, deeds)
        self.assertEqual(strokes[3], [put_line(0, 0, 7, 6), put_line(0, 0, 6, 5), end_line(0)])
        self.assertEqual(len(behind([5], [], [stroke for of_deed in strokes for stroke in of_deed])[1]), 5)

    def test_large_room(self):
        deeds = [BEGIN] + [("put", 0, 0, number) for number in range(300)] + [("end", 0), BEGIN]
        for room in (BIG, 601):
            with self.subTest(room=room):
                self.assertEqual(answers([5], room, deeds), [0] + ["done"] * 301 + [1])
                self.assertEqual([len(of_deed) for of_deed in strokes_of([5], room, deeds)], [0] + [1] * 301 + [0])


class TestMakingRoom(RoomCase):
    def test_by_cutting_alone(self):
        deeds = [BEGIN, ("put", 0, 0, 6), ("end", 0), ("carry", 0), BEGIN, BEGIN]
        self.told([5], 3, deeds, [1, 2], [[], [("cut", 2)]])

    def test_by_carrying_and_cutting(self):
        deeds = [BEGIN, ("put", 0, 0, 6), ("end", 0), BEGIN, BEGIN]
        self.told([5], 3, deeds, [1, 2], [[], [("page", 0, 6), ("cut", 2)]])

    def test_for_a_put(self):
        deeds = [BEGIN, ("put", 0, 0, 6), ("end", 0), BEGIN, ("put", 1, 0, 7)]
        self.told([5], 4, deeds, [1, "done"], [[], [("page", 0, 6), ("cut", 2), put_line(1, 0, 6, 7)]])

    def test_pages_are_carried_from_page_nought_on(self):
        deeds = [BEGIN, ("put", 0, 3, 1), ("put", 0, 0, 1), ("put", 0, 2, 1), ("end", 0), BEGIN, BEGIN, BEGIN, BEGIN]
        self.told([0] * 4, 7, deeds, [1, 2, 3, 4],
                  [[], [], [], [("page", 0, 1), ("page", 2, 1), ("page", 3, 1), ("cut", 4)]])

    def test_pages_of_open_dealings_are_carried_too(self):
        deeds = [BEGIN, ("put", 0, 0, 6), ("end", 0), BEGIN, ("put", 1, 1, 8), BEGIN, BEGIN]
        self.told([5, 7], 6, deeds, [2, 3], [[], [("page", 0, 6), ("page", 1, 8), ("cut", 2)]])

    def test_pages_that_are_the_same_are_not_carried(self):
        deeds = [BEGIN, ("put", 0, 0, 5), ("put", 0, 1, 8), ("end", 0), BEGIN, BEGIN, BEGIN]
        self.told([5, 7], 5, deeds, [1, 2, 3], [[], [], [("page", 1, 8), ("cut", 3)]])

    def test_no_room_is_made_where_there_is_room(self):
        deeds = [BEGIN, ("put", 0, 0, 6), ("end", 0), BEGIN]
        self.told([5], 3, deeds, [1], [[]])

    def test_no_room_is_made_for_an_end_or_a_drop(self):
        deeds = [BEGIN, ("put", 0, 0, 6), ("end", 0), BEGIN, ("end", 1)]
        self.told([5], 3, deeds, ["done"], [[end_line(1)]])
        self.told([5], 3, deeds[:4] + [("drop", 1)], ["done"], [[end_line(1)]])

    def test_where_it_can_not_be_made_the_strokes_stay(self):
        deeds = [BEGIN, ("put", 0, 0, 6), ("put", 0, 1, 8), BEGIN, BEGIN, ("carry", 0), ("carry", 1), CUT]
        self.told([5, 7], 5, deeds, ["no room", "no room", "done", "done", "done"],
                  [[("page", 0, 6), ("page", 1, 8)], [], [], [], []])

    def test_a_line_is_cut_though_there_is_no_room_then_either(self):
        deeds = [BEGIN, BEGIN, ("end", 0), ("put", 1, 0, 6), ("put", 1, 0, 6), BEGIN]
        self.told([5], 2, deeds, [0, 1, "done", "no room", "no room", 2],
                  [[], [], [end_line(0)], [("cut", 1)], [], []])

    def test_pages_are_carried_and_a_line_is_cut_though_there_is_no_room_then_either(self):
        deeds = [BEGIN, BEGIN, ("put", 0, 0, 6), ("put", 1, 1, 8), ("end", 0), BEGIN]
        self.told([5, 7], 6, deeds + [("put", 1, 1, 9), ("put", 1, 1, 9), BEGIN, ("look", 1)],
                  [2, "no room", "no room", 3, 8],
                  [[], [("page", 0, 6), ("page", 1, 8), ("cut", 1)], [], [], []])

    def test_no_room_is_made_where_something_else_refuses(self):
        deeds = [BEGIN, BEGIN, ("put", 0, 0, 6), ("put", 1, 0, 9), ("put", 1, 2, 9), ("put", 1, -1, 9),
                 ("put", 2, 1, 9), ("end", 2), ("drop", 2), ("carry", 2), ("look", -1), ("put", 1, 1, 9)]
        self.told([5, 7], 4, deeds,
                  ["taken", "no page", "no page", "no dealing", "no dealing", "no dealing", "no page", "no page",
                   "no room"], [[]] * 8 + [[("page", 0, 6)]])

    def test_refused_put_binds_no_lines(self):
        deeds = [BEGIN, ("put", 0, 0, 6), ("put", 0, 0, 7), ("put", 0, 0, 7), BEGIN]
        self.told([5], 4, deeds, ["done", "no room", "no room", 1], [[put_line(0, 0, 5, 6)], [("page", 0, 6)], [], []])

    def test_refused_begin_binds_no_lines(self):
        deeds = [BEGIN, BEGIN, BEGIN, ("end", 0), BEGIN]
        self.told([5], 1, deeds, [0, "no room", "no room", "done", 3], [[], [], [], [end_line(0)], [("cut", 1)]])


class TestNeverMoreLinesThanRoom(unittest.TestCase):
    def test_made_days(self):
        full = 0
        for seed in range(120):
            room = seed % 15
            pages = [0] * (1 + seed % 4)
            log_room = []
            cellar = (pages, [])
            for of_deed in strokes_of(pages, room, made_day(seed, pages, room, 60, [0, 1, 2])):
                for stroke in of_deed:
                    cellar = behind(cellar[0], cellar[1], [stroke])
                    log_room.append(len(cellar[1]))
            with self.subTest(seed=seed):
                self.assertLessEqual(max(log_room, default=0), room)
            full += max(log_room, default=0) == room
        # Some days come up to their room, or they would show little.
        self.assertGreater(full, 40)


if __name__ == "__main__":
    unittest.main()

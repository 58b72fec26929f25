"""Points 1, 8 to 10 and 12 and the interface of quillhouse.days: coming up with halts, and days in a row."""

import copy
import inspect
import itertools
import unittest

from helper import BIG, Dice, flat, made_day, told_pages
from quillhouse.cellar import behind
from quillhouse.day import answers, strokes_of
from quillhouse.days import after_days, came_up
from quillhouse.rising import up, wanted

BEGIN = ("begin",)
PLENTY = 1000

# Seven strokes: two lines of dealing 0 and its end, two pages, a line of dealing 1 and its end.
DAY = [BEGIN, ("put", 0, 0, 6), ("put", 0, 1, 8), ("end", 0), ("carry", 0), ("carry", 1), BEGIN, ("put", 1, 0, 9),
       ("end", 1)]
# What a house with the pages 5 and 7 comes up with, by how many of these strokes were made.
DAY_CAME_UP = [[5, 7], [5, 7], [5, 7], [6, 8], [6, 8], [6, 8], [6, 8], [9, 8]]


def made_days(seed, pages, room):
    # Each day is made for the pages that the one before it came up with, told by point 10 from the deeds.
    dice = Dice(seed)
    days = []
    told = []
    for count in range(1 + seed % 12):
        deeds = made_day(seed * 100 + count, pages, room, 30, [0, 1, 2, 3])
        strokes = strokes_of(pages, room, deeds)
        stop = dice.below(len(flat(strokes)) + 3)
        days.append((deeds, stop, [dice.below(6) for halt in range(dice.below(4))]))
        pages = told_pages(pages, deeds, answers(pages, room, deeds), strokes, stop)
        told.append(pages)
    return days, told


class TestInterface(unittest.TestCase):
    def test_names_of_the_arguments(self):
        self.assertEqual(list(inspect.signature(came_up).parameters), ["pages", "log", "halts"])
        self.assertEqual(list(inspect.signature(after_days).parameters), ["pages", "room", "days"])

    def test_kinds(self):
        self.assertIs(type(came_up([5], [], [])), list)
        self.assertIs(type(came_up([5], [("end", 0)], [0, 1])), list)
        found = after_days([5, 7], PLENTY, [(DAY, 3, [1]), ([], 0, [])])
        self.assertIs(type(found), list)
        self.assertEqual([type(pages) for pages in found], [list, list])


class TestCameUp(unittest.TestCase):
    LOG = [("put", 0, 0, 5, 6), ("put", 1, 1, 7, 8), ("put", 0, 2, 1, 2), ("end", 0), ("put", 2, 3, 0, 4)]
    PAGES = [5, 8, 1, 4]
    WANTED = [6, 7, 2, 0]

    def test_empty_log(self):
        self.assertEqual(came_up([5, 7], [], []), [5, 7])
        self.assertEqual(came_up([5, 7], [], [0, 1, 9]), [5, 7])

    def test_no_halts(self):
        self.assertEqual(came_up(self.PAGES, self.LOG, []), self.WANTED)

    def test_one_halt(self):
        self.assertEqual(len(up(self.PAGES, self.LOG)), 5)
        for halt in list(range(8)) + [BIG]:
            with self.subTest(halt=halt):
                self.assertEqual(came_up(self.PAGES, self.LOG, [halt]), self.WANTED)

    def test_several_halts(self):
        for halts in itertools.product([0, 1, 2, 5, 6], repeat=3):
            with self.subTest(halts=halts):
                self.assertEqual(came_up(self.PAGES, self.LOG, list(halts)), self.WANTED)

    def test_many_halts_of_nought(self):
        self.assertEqual(came_up(self.PAGES, self.LOG, [0] * 50), self.WANTED)

    def test_pages_that_are_as_wanted(self):
        self.assertEqual(came_up(self.WANTED, self.LOG, [1, 0]), self.WANTED)

    def test_puts_of_several_dealings_on_one_page(self):
        log = [("put", 0, 0, 1, 2), ("put", 1, 0, 2, 3), ("put", 2, 0, 3, 4), ("end", 1)]
        for halts in ([], [0], [1], [2], [3], [1, 1], [1, 0, 1]):
            with self.subTest(halts=halts):
                self.assertEqual(came_up([9], log, halts), [1])
                self.assertEqual(came_up([9], log + [("end", 0)], halts), [3])

    def test_any_log(self):
        for seed in range(80):
            dice = Dice(seed)
            pages = [dice.below(4) for page in range(1 + dice.below(5))]
            log = [("end", dice.below(6)) if dice.below(5) == 0 else
                   ("put", dice.below(6), dice.below(len(pages)), dice.below(4), dice.below(4))
                   for count in range(dice.below(20))]
            halts = [dice.below(8) for count in range(dice.below(5))]
            with self.subTest(seed=seed):
                self.assertEqual(came_up(pages, log, halts), wanted(pages, log))

    def test_large_numbers_and_forty_pages(self):
        pages = [-BIG] * 40
        log = [("put", page % 2, page, -BIG, BIG - page) for page in range(40)] + [("end", 1)]
        told = [BIG - page if page % 2 else -BIG for page in range(40)]
        self.assertEqual(came_up(pages, log, [3, 30, 0, 1]), told)

    def test_stays_as_handed_in(self):
        pages = list(self.PAGES)
        log = list(self.LOG)
        halts = [2, 0, 9]
        found = came_up(pages, log, halts)
        found.append("more")
        self.assertEqual((pages, log, halts), (self.PAGES, self.LOG, [2, 0, 9]))

    def test_a_list_of_its_own(self):
        pages = [5]
        came_up(pages, [], []).append(6)
        came_up(pages, [], [1]).append(6)
        self.assertEqual(pages, [5])


class TestAfterDays(unittest.TestCase):
    def test_no_days(self):
        self.assertEqual(after_days([5, 7], PLENTY, []), [])

    def test_day_without_deeds(self):
        for stop in (0, 1, 9):
            self.assertEqual(after_days([5, 7], PLENTY, [([], stop, [])]), [[5, 7]])
            self.assertEqual(after_days([5, 7], PLENTY, [([], stop, [0, 3])]), [[5, 7]])

    def test_day_stopped_behind_each_of_its_strokes(self):
        for stop, told in enumerate(DAY_CAME_UP):
            for halts in ([], [0], [1], [2], [1, 1], [9]):
                with self.subTest(stop=stop, halts=halts):
                    self.assertEqual(after_days([5, 7], PLENTY, [(DAY, stop, halts)]), [told])

    def test_day_stopped_beyond_its_last_stroke(self):
        for stop in (8, 100, BIG):
            with self.subTest(stop=stop):
                self.assertEqual(after_days([5, 7], PLENTY, [(DAY, stop, [])]), [[9, 8]])

    def test_at_the_end_of_the_day_open_dealings_leave_nothing(self):
        deeds = [BEGIN, ("put", 0, 0, 6), ("carry", 0), BEGIN, ("put", 1, 1, 8), ("end", 1)]
        self.assertEqual(after_days([5, 7], PLENTY, [(deeds, 100, [])]), [[5, 8]])

    def test_each_day_begins_with_what_the_one_before_came_up_with(self):
        first = [BEGIN, ("put", 0, 0, 6), ("end", 0), BEGIN, ("put", 1, 1, 8), ("carry", 1)]
        second = [BEGIN, ("put", 0, 1, 9), ("end", 0)]
        third = [BEGIN, ("put", 0, 0, 10), ("drop", 0), ("cut",)]
        days = [(first, 100, [1]), (second, 100, [0]), (third, 100, []), (second, 1, [])]
        self.assertEqual(after_days([5, 7], PLENTY, days), [[6, 7], [6, 9], [6, 9], [6, 9]])

    def test_day_sees_the_pages_of_the_one_before_as_olds(self):
        first = [BEGIN, ("put", 0, 0, 6), ("end", 0)]
        second = [BEGIN, ("put", 0, 0, 7), ("carry", 0)]
        self.assertEqual(after_days([5], PLENTY, [(first, 9, []), (second, 9, [])]), [[6], [6]])

    def test_each_day_begins_with_an_empty_log_and_numbers_from_nought(self):
        # With a room of three there is one put a day, as long as nothing of the day before is kept.
        day = [BEGIN, ("put", 0, 0, 6), BEGIN]
        days = [(day, 1, []), ([BEGIN, ("put", 0, 0, 7), ("end", 0)], 2, []), (day, 100, []),
                ([BEGIN, ("put", 0, 0, 8), ("end", 0)], 100, [])]
        self.assertEqual(after_days([5], 3, days), [[5], [7], [7], [8]])

    def test_room_of_nought(self):
        self.assertEqual(after_days([5, 7], 0, [(DAY, 9, []), (DAY, 0, [1])]), [[5, 7], [5, 7]])

    def test_stops_count_the_strokes_of_refused_deeds_too(self):
        # With a room of five the second begin is refused, and carries both pages.
        deeds = [BEGIN, ("put", 0, 0, 6), ("put", 0, 1, 8), BEGIN, ("end", 0)]
        told = [[5, 7]] * 5 + [[6, 8]] * 2
        for stop in range(7):
            with self.subTest(stop=stop):
                self.assertEqual(after_days([5, 7], 5, [(deeds, stop, [])]), [told[stop]])

    def test_twelve_days(self):
        day = [BEGIN, ("put", 0, 0, 1), ("put", 0, 0, 2), ("end", 0)]
        days = [([BEGIN, ("put", 0, count % 3, count), ("end", 0)], 2, [count]) for count in range(12)]
        told = []
        pages = [-1, -1, -1]
        for count in range(12):
            pages = pages[:count % 3] + [count] + pages[count % 3 + 1:]
            told.append(pages)
        self.assertEqual(after_days([-1, -1, -1], 3, days), told)
        self.assertEqual(after_days([0], 5, [(day, stop % 4, []) for stop in range(12)]),
                         [[0]] * 3 + [[2]] * 9)

    def test_made_days(self):
        for seed in range(96):
            pages = [count % 3 for count in range(1 + seed % 4)]
            room = 3 + seed % 20
            days, told = made_days(seed, pages, room)
            with self.subTest(seed=seed):
                self.assertEqual(after_days(pages, room, days), told)

    def test_one_day_after_the_other_is_all_of_them_at_once(self):
        for seed in (10, 11, 23):
            days, told = made_days(seed, [0, 1], 12)
            pages = [0, 1]
            found = []
            for day in days:
                pages = after_days(pages, 12, [day])[0]
                found.append(pages)
            self.assertEqual(found, after_days([0, 1], 12, days))

    def test_a_day_is_its_strokes_and_coming_up(self):
        for stop in range(9):
            for halts in ([], [1], [0, 2]):
                cellar = behind([5, 7], [], flat(strokes_of([5, 7], 6, DAY))[:stop])
                self.assertEqual(after_days([5, 7], 6, [(DAY, stop, halts)]), [came_up(*cellar, halts)])

    def test_forty_pages_and_large_numbers(self):
        deeds = [BEGIN] + [("put", 0, page, -BIG + page) for page in range(40)] + [("end", 0)]
        told = [-BIG + page for page in range(40)]
        days = [(deeds, 40, [5]), (deeds, 41, [5, 7, 50]), ([], 0, [])]
        self.assertEqual(after_days([BIG] * 40, 81, days), [[BIG] * 40, told, told])

    def test_stays_as_handed_in(self):
        pages = [5, 7]
        days = [(list(DAY), 3, [0, 1]), (list(DAY), 100, [])]
        before = copy.deepcopy(days)
        found = after_days(pages, 6, days)
        for of_day in found:
            of_day.append("more")
        self.assertEqual(pages, [5, 7])
        self.assertEqual(days, before)

    def test_lists_are_not_the_same_list(self):
        pages = [5, 7]
        found = after_days(pages, 6, [([], 0, []), ([], 0, [])])
        found[0][0] = 99
        self.assertEqual(found[1], [5, 7])
        self.assertEqual(pages, [5, 7])


if __name__ == "__main__":
    unittest.main()

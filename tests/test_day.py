"""Points 3 to 7, 10 and 11 and the interface of quillhouse.day: the answers and the strokes of a day."""

import inspect
import itertools
import unittest

from helper import BIG, flat, made_day, told_day, told_pages
from quillhouse.cellar import behind
from quillhouse.day import answers, strokes_of
from quillhouse.errors import HouseError, NoDealing, NoPage, NoRoom, Taken
from quillhouse.house import House
from quillhouse.rising import up, wanted

BEGIN = ("begin",)
CUT = ("cut",)
TEXTS = {NoDealing: "no dealing", NoPage: "no page", Taken: "taken", NoRoom: "no room"}

EVERY_KIND = [
    BEGIN, BEGIN, ("put", 0, 0, 6), ("put", 1, 0, 9), ("put", 1, 1, 8), ("look", 0), ("look", 2), ("carry", 1),
    ("carry", 1), ("carry", -1), ("put", 2, 0, 6), ("end", 0), ("end", 0), CUT, ("drop", 1), ("drop", 1), ("look", 1),
    BEGIN,
]
ANSWERS = [
    0, 1, "done", "taken", "done", 6, "no page", "done", "done", "no page", "no dealing", "done", "no dealing", "done",
    "done", "no dealing", 7, 2,
]
STROKES = [
    [], [], [("line", ("put", 0, 0, 5, 6))], [], [("line", ("put", 1, 1, 7, 8))], [], [], [("page", 1, 8)], [], [], [],
    [("line", ("end", 0))], [], [], [("line", ("put", 1, 1, 8, 7)), ("line", ("end", 1))], [], [],
    [("page", 0, 6), ("page", 1, 7), ("cut", 5)],
]


def small_days(longest):
    deeds = [BEGIN, ("put", 0, 0, 1), ("put", 0, 1, 2), ("put", 1, 0, 2), ("put", 1, 0, 0), ("end", 0), ("end", 1),
             ("drop", 0), ("drop", 1), ("carry", 0), CUT]
    for day in itertools.product(deeds, repeat=longest):
        yield [BEGIN, BEGIN] + list(day)


def long_days():
    for seed in range(160):
        pages = [count % 3 for count in range(1 + seed % 5)]
        room = (seed * 7) % 33
        yield pages, room, made_day(seed, pages, room, 70, [0, 1, 2, 3])


def on_a_house(pages, room, deeds):
    house = House(pages, room)
    found = []
    for deed in deeds:
        try:
            answer = getattr(house, deed[0])(*deed[1:])
            found.append("done" if answer is None else answer)
        except HouseError as error:
            found.append(TEXTS[type(error)])
    return found


class TestInterface(unittest.TestCase):
    def test_names_of_the_arguments(self):
        self.assertEqual(list(inspect.signature(answers).parameters), ["pages", "room", "deeds"])
        self.assertEqual(list(inspect.signature(strokes_of).parameters), ["pages", "room", "deeds"])

    def test_kinds(self):
        self.assertIs(type(answers([5, 7], 8, EVERY_KIND)), list)
        strokes = strokes_of([5, 7], 8, EVERY_KIND)
        self.assertIs(type(strokes), list)
        for of_deed in strokes:
            self.assertIs(type(of_deed), list)
            for stroke in of_deed:
                self.assertIs(type(stroke), tuple)
                self.assertIs(type(stroke[1]), tuple if stroke[0] == "line" else int)


class TestAnswers(unittest.TestCase):
    def test_no_deeds(self):
        self.assertEqual(answers([5], 9, []), [])
        self.assertEqual(answers([5], 0, []), [])

    def test_every_kind_of_deed(self):
        self.assertEqual(answers([5, 7], 8, EVERY_KIND[:-1]), ANSWERS[:-1])

    def test_each_kind_alone(self):
        told = {
            BEGIN: 0, ("put", 0, 0, 6): "no dealing", ("end", 0): "no dealing", ("drop", 0): "no dealing",
            ("look", 0): 5, ("look", 1): "no page", ("carry", 0): "done", ("carry", 1): "no page", CUT: "done",
        }
        for deed, answer in told.items():
            with self.subTest(deed=deed):
                self.assertEqual(answers([5], 9, [deed]), [answer])

    def test_no_room(self):
        self.assertEqual(answers([5], 2, [BEGIN, ("put", 0, 0, 6), BEGIN, BEGIN]), [0, "no room", 1, "no room"])

    def test_refused_begins_count(self):
        self.assertEqual(answers([5], 1, [BEGIN, BEGIN, ("end", 1), ("end", 0), BEGIN]),
                         [0, "no room", "no dealing", "done", 2])

    def test_large_numbers_and_numbers_below_nought(self):
        deeds = [("look", 0), BEGIN, ("put", 0, 0, BIG), ("look", 0), ("look", BIG), ("end", -BIG), ("drop", 0),
                 ("look", 0)]
        self.assertEqual(answers([-BIG], BIG, deeds),
                         [-BIG, 0, "done", BIG, "no page", "no dealing", "done", -BIG])

    def test_number_nought_is_answered_as_a_number(self):
        found = answers([0], 9, [("look", 0), BEGIN])
        self.assertEqual(found, [0, 0])
        self.assertEqual([type(answer) for answer in found], [int, int])


class TestStrokes(unittest.TestCase):
    def test_no_deeds(self):
        self.assertEqual(strokes_of([5], 9, []), [])

    def test_every_kind_of_deed(self):
        self.assertEqual(strokes_of([5, 7], 8, EVERY_KIND[:-1]), STROKES[:-1])

    def test_room_is_made_by_the_deed_that_needs_it(self):
        self.assertEqual(answers([5, 7], 7, EVERY_KIND + [BEGIN] * 2), ANSWERS + [3, 4])
        self.assertEqual(strokes_of([5, 7], 7, EVERY_KIND + [BEGIN] * 2),
                         STROKES[:-1] + [[], [], [("page", 0, 6), ("page", 1, 7), ("cut", 5)]])

    def test_refused_deeds_have_a_list_too(self):
        self.assertEqual(strokes_of([5], 0, [BEGIN, ("put", 0, 0, 6), ("look", 1), ("end", 0)]), [[], [], [], []])

    def test_lists_are_not_the_same_list(self):
        strokes = strokes_of([5], 0, [BEGIN, BEGIN])
        strokes[0].append("more")
        self.assertEqual(strokes[1], [])

    def test_forty_pages(self):
        pages = list(range(40))
        deeds = [BEGIN] + [("put", 0, page, -page) for page in pages] + [("end", 0)]
        deeds += [("carry", page) for page in reversed(pages)] + [CUT]
        strokes = strokes_of(pages, 81, deeds)
        self.assertEqual(strokes[0], [])
        self.assertEqual(strokes[1:41], [[("line", ("put", 0, page, page, -page))] for page in pages])
        self.assertEqual(strokes[41], [("line", ("end", 0))])
        self.assertEqual(strokes[42:82], [[("page", page, -page)] if page else [] for page in reversed(pages)])
        self.assertEqual(strokes[82], [("cut", 41)])


class TestAsTold(unittest.TestCase):
    def assert_as_told(self, pages, room, deeds):
        told = told_day(pages, room, deeds)
        self.assertEqual(answers(pages, room, deeds), [answer for answer, of_deed in told], (pages, room, deeds))
        self.assertEqual(strokes_of(pages, room, deeds), [of_deed for answer, of_deed in told], (pages, room, deeds))

    def test_small_days(self):
        for room in (0, 3, 4, 5, 6, 9):
            for deeds in small_days(3):
                self.assert_as_told([0, 2], room, deeds)

    def test_long_days(self):
        for pages, room, deeds in long_days():
            self.assert_as_told(pages, room, deeds)

    def test_long_days_have_every_answer(self):
        found = [str(answer) for day in long_days() for answer in answers(*day)]
        for text in ["0", "1", "done", "no dealing", "no page", "taken", "no room"]:
            self.assertGreater(found.count(text), 100, text)

    def test_forty_pages_and_large_numbers(self):
        for seed in range(10):
            numbers = [BIG, -BIG, BIG - 1, 0, -1]
            pages = [numbers[count % 5] for count in range(40)]
            room = 10 + seed * 9
            self.assert_as_told(pages, room, made_day(seed, pages, room, 150, numbers))

    def test_a_house_answers_the_same(self):
        for pages, room, deeds in long_days():
            self.assertEqual(on_a_house(pages, room, deeds), answers(pages, room, deeds))

    def test_the_first_deeds_of_a_day_do_not_depend_on_the_later_ones(self):
        for pages, room, deeds in itertools.islice(long_days(), 20):
            for many in range(len(deeds)):
                self.assertEqual(answers(pages, room, deeds[:many]), answers(pages, room, deeds)[:many])
                self.assertEqual(strokes_of(pages, room, deeds[:many]), strokes_of(pages, room, deeds)[:many])

    def test_pages_and_deeds_stay_as_handed_in(self):
        for pages, room, deeds in itertools.islice(long_days(), 20):
            pages_before = list(pages)
            deeds_before = list(deeds)
            answers(pages, room, deeds)
            strokes_of(pages, room, deeds)
            self.assertEqual(pages, pages_before)
            self.assertEqual(deeds, deeds_before)


class TestStoppedBehindEachStroke(unittest.TestCase):
    def assert_comes_up(self, pages, room, deeds):
        of_deeds = strokes_of(pages, room, deeds)
        found = answers(pages, room, deeds)
        strokes = flat(of_deeds)
        for stop in range(len(strokes) + 1):
            told = told_pages(pages, deeds, found, of_deeds, stop)
            cellar = behind(pages, [], strokes[:stop])
            self.assertEqual(wanted(*cellar), told, (pages, room, deeds, stop))
            self.assertEqual(behind(*cellar, up(*cellar)), (told, []), (pages, room, deeds, stop))

    def test_small_days(self):
        for room in (5, 6, 9):
            for deeds in small_days(3):
                self.assert_comes_up([0, 2], room, deeds)

    def test_long_days(self):
        for pages, room, deeds in long_days():
            self.assert_comes_up(pages, room, deeds)

    def test_long_days_with_plenty_of_room(self):
        for pages, room, deeds in itertools.islice(long_days(), 40):
            self.assert_comes_up(pages, 1000, deeds)

    def test_forty_pages_and_large_numbers(self):
        numbers = [BIG, -BIG, BIG - 1, 0, -1]
        pages = [numbers[count % 5] for count in range(40)]
        self.assert_comes_up(pages, 60, made_day(3, pages, 60, 150, numbers))

    def test_coming_up_stopped_behind_each_of_its_strokes(self):
        for pages, room, deeds in itertools.islice(long_days(), 0, 160, 8):
            strokes = flat(strokes_of(pages, room, deeds))
            for stop in range(len(strokes) + 1):
                cellar = behind(pages, [], strokes[:stop])
                told = wanted(*cellar)
                rising = up(*cellar)
                for halt in range(len(rising) + 1):
                    halted = behind(*cellar, rising[:halt])
                    self.assertEqual(behind(*halted, up(*halted)), (told, []))

    def test_dropped_dealing_leaves_its_pages_as_it_found_them(self):
        deeds = [BEGIN, ("put", 0, 0, 6), ("end", 0), BEGIN, ("put", 1, 0, 7), ("carry", 0), ("put", 1, 0, 8),
                 ("put", 1, 1, 9), ("drop", 1)]
        strokes = flat(strokes_of([5, 7], 100, deeds))
        for stop in range(len(strokes) + 1):
            self.assertEqual(wanted(*behind([5, 7], [], strokes[:stop])), [5 if stop < 2 else 6, 7])


class TestPagesAreWrittenBehindTheirLines(unittest.TestCase):
    def assert_lines_come_first(self, pages, room, deeds):
        last_new = {}
        written = 0
        for stroke in flat(strokes_of(pages, room, deeds)):
            if stroke[0] == "line" and stroke[1][0] == "put":
                last_new[stroke[1][2]] = stroke[1][4]
            elif stroke[0] == "page":
                self.assertEqual(last_new.get(stroke[1]), stroke[2], (pages, room, deeds))
                written += 1
        return written

    def test_small_days(self):
        for room in (5, 6, 9):
            for deeds in small_days(3):
                self.assert_lines_come_first([0, 2], room, deeds)

    def test_long_days(self):
        written = [self.assert_lines_come_first(*day) for day in long_days()]
        self.assertGreater(sum(written), 500)


if __name__ == "__main__":
    unittest.main()

"""Points 1, 4 and 7 and the interface of quillhouse.house: each deed of a house and each of its refusals."""

import inspect
import unittest

from helper import BIG, WatchedHouse
from quillhouse.errors import HouseError, NoDealing, NoPage, NoRoom, Taken
from quillhouse.house import House

PLENTY = 1000


def looks(house, many):
    return [house.look(page) for page in range(many)]


def begun(pages, room, many):
    house = WatchedHouse(pages, room)
    for count in range(many):
        house.begin()
    return house


class HouseCase(unittest.TestCase):
    def refused(self, error, method, *arguments):
        with self.assertRaises(HouseError) as caught:
            method(*arguments)
        self.assertIs(type(caught.exception), error)


class TestInterface(unittest.TestCase):
    def test_names_of_the_arguments(self):
        told = {
            "__init__": ["self", "pages", "room"], "begin": ["self"], "put": ["self", "dealing", "page", "number"],
            "end": ["self", "dealing"], "drop": ["self", "dealing"], "look": ["self", "page"],
            "carry": ["self", "page"], "cut": ["self"],
        }
        for name, parameters in told.items():
            with self.subTest(name=name):
                self.assertEqual(list(inspect.signature(getattr(House, name)).parameters), parameters)

    def test_made_with_named_arguments(self):
        house = House(pages=[5], room=9)
        dealing = house.begin()
        house.put(dealing=dealing, page=0, number=6)
        self.assertEqual(house.look(page=0), 6)
        house.carry(page=0)
        house.drop(dealing=dealing)
        house.end(dealing=house.begin())

    def test_begin_and_look_give_numbers_and_the_others_nothing(self):
        house = House([5, 7], PLENTY)
        self.assertEqual(house.begin(), 0)
        self.assertEqual(house.begin(), 1)
        self.assertIsNone(house.put(0, 0, 6))
        self.assertIsNone(house.put(1, 1, 8))
        self.assertIsNone(house.carry(0))
        self.assertIsNone(house.carry(0))
        self.assertIsNone(house.cut())
        self.assertIsNone(house.end(0))
        self.assertIsNone(house.drop(1))
        self.assertIsNone(house.cut())
        self.assertEqual(house.look(0), 6)


class TestBegin(HouseCase):
    def test_numbers_from_nought_on(self):
        house = House([5], PLENTY)
        self.assertEqual([house.begin() for count in range(5)], [0, 1, 2, 3, 4])

    def test_ended_and_dropped_dealings_count(self):
        house = House([5], PLENTY)
        house.end(house.begin())
        house.drop(house.begin())
        self.assertEqual(house.begin(), 2)

    def test_refused_begins_count(self):
        house = House([5], 1)
        self.assertEqual(house.begin(), 0)
        self.refused(NoRoom, house.begin)
        self.refused(NoRoom, house.begin)
        house.end(0)
        self.assertEqual(house.begin(), 3)

    def test_refused_begin_opens_nothing(self):
        house = begun([5], 1, 1)
        self.refused(NoRoom, house.begin)
        self.refused(NoDealing, house.end, 1)
        house.end(0)
        self.refused(NoDealing, house.end, 1)

    def test_other_refused_deeds_do_not_count(self):
        house = House([5], PLENTY)
        self.refused(NoDealing, house.put, 0, 0, 6)
        self.refused(NoPage, house.look, 1)
        self.assertEqual(house.begin(), 0)


class TestPut(HouseCase):
    def test_desk_has_the_number(self):
        house = begun([5, 7, 9], PLENTY, 1)
        house.put(0, 1, 8)
        self.assertEqual(looks(house, 3), [5, 8, 9])
        house.put(0, 2, -4)
        self.assertEqual(looks(house, 3), [5, 8, -4])

    def test_page_that_the_dealing_itself_has_taken(self):
        house = begun([5], PLENTY, 1)
        for number in (6, 7, 7, 5):
            house.put(0, 0, number)
            self.assertEqual(house.look(0), number)
        self.assertEqual(house.strokes, [("line", ("put", 0, 0, 5, 6)), ("line", ("put", 0, 0, 6, 7)),
                                         ("line", ("put", 0, 0, 7, 7)), ("line", ("put", 0, 0, 7, 5))])

    def test_number_that_the_page_has_already(self):
        house = begun([5, 7], PLENTY, 2)
        house.put(0, 1, 7)
        self.assertEqual(house.look(1), 7)
        self.assertEqual(house.strokes, [("line", ("put", 0, 1, 7, 7))])
        self.refused(Taken, house.put, 1, 1, 7)

    def test_dealings_by_turns(self):
        house = begun([1, 2, 3, 4], PLENTY, 2)
        house.put(1, 3, 40)
        house.put(0, 0, 10)
        house.put(1, 2, 30)
        house.put(0, 1, 20)
        self.assertEqual(looks(house, 4), [10, 20, 30, 40])
        house.drop(1)
        self.assertEqual(looks(house, 4), [10, 20, 3, 4])
        house.end(0)
        self.assertEqual(looks(house, 4), [10, 20, 3, 4])

    def test_large_numbers_and_numbers_below_nought(self):
        house = begun([BIG, -BIG], PLENTY, 1)
        house.put(0, 0, -BIG)
        house.put(0, 1, BIG)
        self.assertEqual(looks(house, 2), [-BIG, BIG])
        house.drop(0)
        self.assertEqual(looks(house, 2), [BIG, -BIG])


class TestEnd(HouseCase):
    def test_not_open_any_more(self):
        house = begun([5], PLENTY, 1)
        house.end(0)
        self.refused(NoDealing, house.end, 0)
        self.refused(NoDealing, house.drop, 0)
        self.refused(NoDealing, house.put, 0, 0, 6)

    def test_pages_are_taken_no_more(self):
        house = begun([5, 7], PLENTY, 2)
        house.put(0, 0, 6)
        house.put(0, 1, 8)
        self.refused(Taken, house.put, 1, 0, 9)
        house.end(0)
        house.put(1, 0, 9)
        house.put(1, 1, 9)
        self.assertEqual(looks(house, 2), [9, 9])

    def test_pages_of_others_stay_taken(self):
        house = begun([5, 7], PLENTY, 3)
        house.put(0, 0, 6)
        house.put(1, 1, 8)
        house.end(0)
        self.refused(Taken, house.put, 2, 1, 9)
        house.put(2, 0, 9)
        self.refused(Taken, house.put, 1, 0, 9)

    def test_line_and_nothing_else(self):
        house = begun([5], PLENTY, 1)
        house.put(0, 0, 6)
        house.end(0)
        self.assertEqual(house.strokes, [("line", ("put", 0, 0, 5, 6)), ("line", ("end", 0))])


class TestDrop(HouseCase):
    def test_no_puts(self):
        house = begun([5], PLENTY, 1)
        house.drop(0)
        self.assertEqual(house.strokes, [("line", ("end", 0))])
        self.assertEqual(house.look(0), 5)
        self.refused(NoDealing, house.drop, 0)

    def test_one_put(self):
        house = begun([5, 7], PLENTY, 1)
        house.put(0, 1, 8)
        house.drop(0)
        self.assertEqual(house.strokes[1:], [("line", ("put", 0, 1, 8, 7)), ("line", ("end", 0))])
        self.assertEqual(looks(house, 2), [5, 7])

    def test_several_puts_on_one_page(self):
        house = begun([5], PLENTY, 1)
        for number in (6, 6, 9):
            house.put(0, 0, number)
        house.drop(0)
        self.assertEqual(house.strokes[3:], [("line", ("put", 0, 0, 9, 6)), ("line", ("put", 0, 0, 6, 6)),
                                             ("line", ("put", 0, 0, 6, 5)), ("line", ("end", 0))])
        self.assertEqual(house.look(0), 5)

    def test_puts_on_several_pages(self):
        house = begun([1, 2, 3], PLENTY, 1)
        for page, number in ((2, 30), (0, 10), (2, 31), (1, 20)):
            house.put(0, page, number)
        house.drop(0)
        self.assertEqual(house.strokes[4:], [
            ("line", ("put", 0, 1, 20, 2)), ("line", ("put", 0, 2, 31, 30)), ("line", ("put", 0, 0, 10, 1)),
            ("line", ("put", 0, 2, 30, 3)), ("line", ("end", 0))])
        self.assertEqual(looks(house, 3), [1, 2, 3])

    def test_puts_of_others_stay(self):
        house = begun([1, 2], PLENTY, 2)
        house.put(0, 0, 10)
        house.put(1, 1, 20)
        house.drop(0)
        self.assertEqual(looks(house, 2), [1, 20])

    def test_back_to_what_an_earlier_dealing_left(self):
        house = begun([1], PLENTY, 1)
        house.put(0, 0, 10)
        house.end(0)
        house.begin()
        house.put(1, 0, 20)
        house.drop(1)
        self.assertEqual(house.look(0), 10)

    def test_page_that_was_carried_in_between(self):
        house = begun([1], PLENTY, 1)
        house.put(0, 0, 10)
        house.carry(0)
        house.drop(0)
        self.assertEqual(house.look(0), 1)
        house.carry(0)
        self.assertEqual(house.strokes, [
            ("line", ("put", 0, 0, 1, 10)), ("page", 0, 10), ("line", ("put", 0, 0, 10, 1)), ("line", ("end", 0)),
            ("page", 0, 1)])

    def test_pages_are_taken_no_more(self):
        house = begun([5, 7], PLENTY, 2)
        house.put(0, 0, 6)
        house.put(0, 1, 8)
        house.drop(0)
        house.put(1, 0, 9)
        house.put(1, 1, 9)
        self.assertEqual(looks(house, 2), [9, 9])


class TestLook(HouseCase):
    def test_each_page(self):
        self.assertEqual(looks(House([5, -7, 0], PLENTY), 3), [5, -7, 0])

    def test_forty_pages(self):
        pages = [page * page for page in range(40)]
        house = House(pages, PLENTY)
        self.assertEqual(looks(house, 40), pages)
        self.refused(NoPage, house.look, 40)
        self.refused(NoPage, house.look, -40)

    def test_desk_and_not_cellar(self):
        house = WatchedHouse([5], 0)
        self.assertEqual(house.look(0), 5)
        house = begun([5], PLENTY, 1)
        house.put(0, 0, 6)
        self.assertEqual(house.look(0), 6)
        self.assertEqual(house.strokes, [("line", ("put", 0, 0, 5, 6))])


class TestCarry(HouseCase):
    def test_nothing_to_do(self):
        house = WatchedHouse([5, 7], PLENTY)
        house.carry(0)
        house.carry(1)
        self.assertEqual(house.strokes, [])

    def test_put_page(self):
        house = begun([5, 7], PLENTY, 1)
        house.put(0, 1, 8)
        house.carry(0)
        self.assertEqual(house.strokes[1:], [])
        house.carry(1)
        self.assertEqual(house.strokes[1:], [("page", 1, 8)])
        house.carry(1)
        self.assertEqual(house.strokes[1:], [("page", 1, 8)])

    def test_page_that_was_put_back_to_what_the_cellar_has(self):
        house = begun([5], PLENTY, 1)
        house.put(0, 0, 6)
        house.put(0, 0, 5)
        house.carry(0)
        self.assertEqual(len(house.strokes), 2)

    def test_page_put_again_behind_a_carry(self):
        house = begun([5], PLENTY, 1)
        house.put(0, 0, 6)
        house.carry(0)
        house.end(0)
        house.begin()
        house.put(1, 0, 5)
        house.carry(0)
        self.assertEqual([stroke for stroke in house.strokes if stroke[0] == "page"], [("page", 0, 6), ("page", 0, 5)])


class TestCut(HouseCase):
    def test_empty_log(self):
        house = WatchedHouse([5], PLENTY)
        house.cut()
        self.assertEqual(house.strokes, [])

    def test_all_lines_needed(self):
        house = begun([5, 7], PLENTY, 1)
        house.put(0, 0, 6)
        house.carry(0)
        house.cut()
        self.assertEqual(house.strokes[2:], [])
        house.end(0)
        house.begin()
        house.put(1, 0, 5)
        house.end(1)
        house.carry(0)
        house.cut()
        self.assertEqual(house.strokes[-1], ("cut", 4))

    def test_no_line_needed(self):
        house = begun([5, 7], PLENTY, 1)
        house.put(0, 0, 6)
        house.end(0)
        house.carry(0)
        house.cut()
        self.assertEqual(house.strokes[-1], ("cut", 2))
        house.cut()
        self.assertEqual(len(house.strokes), 4)

    def test_open_dealing_without_puts_needs_no_line(self):
        house = begun([5], PLENTY, 1)
        house.end(house.begin())
        house.cut()
        self.assertEqual(house.strokes, [("line", ("end", 1)), ("cut", 1)])

    def test_lines_before_the_first_needed_one(self):
        house = begun([5, 7], PLENTY, 1)
        house.put(0, 0, 6)
        house.end(0)
        house.begin()
        house.put(1, 1, 8)
        house.carry(0)
        house.cut()
        self.assertEqual(house.strokes[-1], ("cut", 2))

    def test_last_put_line_of_a_page_that_is_not_carried(self):
        house = begun([5], PLENTY, 1)
        house.put(0, 0, 6)
        house.put(0, 0, 7)
        house.end(0)
        house.cut()
        self.assertEqual(house.strokes[-1], ("cut", 1))
        house.cut()
        self.assertEqual(len(house.strokes), 4)

    def test_page_back_at_what_the_cellar_has(self):
        house = begun([5], PLENTY, 1)
        house.put(0, 0, 6)
        house.drop(0)
        house.cut()
        self.assertEqual(house.strokes[-1], ("cut", 3))


class TestRefusals(HouseCase):
    def test_no_dealing(self):
        house = begun([5], PLENTY, 1)
        for dealing in (1, -1, BIG, -BIG):
            with self.subTest(dealing=dealing):
                self.refused(NoDealing, house.put, dealing, 0, 6)
                self.refused(NoDealing, house.end, dealing)
                self.refused(NoDealing, house.drop, dealing)

    def test_no_page(self):
        house = begun([5, 7], PLENTY, 1)
        for page in (2, 3, -1, -2, -3, BIG, -BIG):
            with self.subTest(page=page):
                self.refused(NoPage, house.put, 0, page, 6)
                self.refused(NoPage, house.look, page)
                self.refused(NoPage, house.carry, page)

    def test_taken(self):
        house = begun([5, 7], PLENTY, 2)
        house.put(0, 1, 8)
        self.refused(Taken, house.put, 1, 1, 9)
        house.put(1, 0, 6)
        self.refused(Taken, house.put, 0, 0, 9)
        self.assertEqual(looks(house, 2), [6, 8])

    def test_carried_and_cut_pages_stay_taken(self):
        house = begun([5, 7], PLENTY, 2)
        house.put(0, 1, 8)
        house.carry(1)
        house.cut()
        self.refused(Taken, house.put, 1, 1, 9)

    def test_no_dealing_comes_before_no_page(self):
        house = House([5], 0)
        for page in (1, -1):
            self.refused(NoDealing, house.put, 0, page, 6)

    def test_no_dealing_comes_before_taken(self):
        house = begun([5], 3, 1)
        house.put(0, 0, 6)
        self.refused(NoDealing, house.put, 1, 0, 6)

    def test_no_page_comes_before_no_room(self):
        house = begun([5], 1, 1)
        self.refused(NoRoom, house.put, 0, 0, 6)
        for page in (1, -1):
            self.refused(NoPage, house.put, 0, page, 6)

    def test_page_below_nought_comes_before_a_taken_page_from_the_end(self):
        house = begun([5, 7], PLENTY, 2)
        house.put(0, 1, 8)
        self.refused(NoPage, house.put, 1, -1, 9)

    def test_taken_comes_before_no_room(self):
        house = begun([5, 7], 4, 2)
        house.put(0, 0, 6)
        self.refused(Taken, house.put, 1, 0, 9)
        self.refused(NoRoom, house.put, 1, 1, 9)

    def test_refused_deed_changes_nothing(self):
        house = begun([5, 7], PLENTY, 2)
        house.put(0, 0, 6)
        house.put(1, 1, 8)
        before = list(house.strokes)
        self.refused(Taken, house.put, 1, 0, 9)
        self.refused(NoPage, house.put, 1, 2, 9)
        self.refused(NoDealing, house.put, 2, 0, 9)
        self.refused(NoDealing, house.end, 2)
        self.refused(NoDealing, house.drop, 2)
        self.refused(NoPage, house.carry, -1)
        self.refused(NoPage, house.look, 2)
        self.assertEqual(house.strokes, before)
        self.assertEqual(looks(house, 2), [6, 8])
        house.drop(1)
        self.assertEqual(looks(house, 2), [6, 7])
        house.end(0)
        self.assertEqual(house.begin(), 2)

    def test_refused_put_takes_no_page(self):
        house = begun([5, 7], 4, 2)
        house.put(0, 0, 6)
        self.refused(NoRoom, house.put, 0, 1, 9)
        self.assertEqual(house.look(1), 7)
        house.end(0)
        house.put(1, 1, 9)
        self.assertEqual(house.look(1), 9)


class TestCopies(unittest.TestCase):
    def test_list_that_is_handed_in_is_not_changed(self):
        pages = [5, 7]
        house = begun(pages, PLENTY, 1)
        house.put(0, 0, 6)
        house.carry(0)
        house.drop(0)
        self.assertEqual(pages, [5, 7])

    def test_list_that_is_changed_behind_the_making(self):
        pages = [5, 7]
        house = House(pages, PLENTY)
        pages[0] = 99
        pages.append(100)
        self.assertEqual(looks(house, 2), [5, 7])
        self.assertRaises(NoPage, house.look, 2)
        house.begin()
        house.put(0, 0, 6)
        house.carry(0)
        house.put(0, 1, 8)
        house.carry(1)
        self.assertEqual(pages, [99, 7, 100])
        pages.clear()
        self.assertEqual(looks(house, 2), [6, 8])
        house.drop(0)
        house.carry(0)
        self.assertEqual(looks(house, 2), [5, 7])

    def test_two_houses_of_one_list(self):
        pages = [5, 7]
        first = House(pages, PLENTY)
        second = House(pages, PLENTY)
        self.assertEqual(first.begin(), 0)
        self.assertEqual(second.begin(), 0)
        first.put(0, 0, 6)
        second.put(0, 0, 8)
        self.assertEqual(first.look(0), 6)
        self.assertEqual(second.look(0), 8)
        first.end(0)
        second.put(0, 1, 9)
        self.assertRaises(NoDealing, first.put, 0, 1, 9)
        self.assertEqual(looks(first, 2), [6, 7])
        self.assertEqual(looks(second, 2), [8, 9])
        self.assertEqual(pages, [5, 7])


if __name__ == "__main__":
    unittest.main()

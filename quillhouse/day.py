"""A day: a list of deeds done in a house, with their answers and their strokes."""

from quillhouse.errors import NoDealing, NoPage, NoRoom, Taken
from quillhouse.house import House


def answers(pages, room, deeds):
    house = House(pages, room)
    return [answer(house, deed) for deed in deeds]


def strokes_of(pages, room, deeds):
    house = House(pages, room)
    strokes = []
    for deed in deeds:
        before = len(house.strokes)
        answer(house, deed)
        strokes.append(house.strokes[before:])
    return strokes


def answer(house, deed):
    try:
        return do_deed(house, deed)
    except NoDealing:
        return "no dealing"
    except NoPage:
        return "no page"
    except Taken:
        return "taken"
    except NoRoom:
        return "no room"


def do_deed(house, deed):
    if deed[0] == "begin":
        return house.begin()
    if deed[0] == "look":
        return house.look(deed[1])
    if deed[0] == "put":
        house.put(deed[1], deed[2], deed[3])
    elif deed[0] == "end":
        house.end(deed[1])
    elif deed[0] == "drop":
        house.drop(deed[1])
    elif deed[0] == "carry":
        house.carry(deed[1])
    elif deed[0] == "cut":
        house.cut()
    return "done"

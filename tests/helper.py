"""What several tests need: days made by a fixed rule, and a day told anew from the words of the document."""

from quillhouse.day import strokes_of
from quillhouse.house import House

BIG = 10 ** 32 - 1


class Dice:
    # Always the same numbers for the same seed, under every Python.
    def __init__(self, seed):
        self.state = seed * 2654435761 + 12345

    def below(self, many):
        self.state = (self.state * 6364136223846793005 + 1442695040888963407) % 2 ** 64
        return (self.state >> 33) % many

    def one_of(self, things):
        return things[self.below(len(things))]


KINDS = ["begin"] * 3 + ["put"] * 12 + ["end"] * 2 + ["drop"] + ["look"] + ["carry"] * 4 + ["cut"] * 2


def is_needed(pages, desk, log, dealings, place):
    line = log[place]
    if line[0] == "end":
        return False
    later_pages = [later[2] for later in log[place + 1:] if later[0] == "put"]
    return line[1] in dealings or (line[2] not in later_pages and pages[line[2]] != desk[line[2]])


class ToldDay:
    # Nothing is kept here but the cellar, the desk, the begins and the puts: all else is found anew for each deed.
    def __init__(self, pages, room):
        self.pages = list(pages)
        self.log = []
        self.desk = list(pages)
        self.room = room
        self.begins = 0
        self.open = []
        self.puts = []
        self.strokes = []

    def do(self, deed):
        self.strokes = []
        if deed[0] == "begin":
            self.begins += 1
        answer = self.refusal(deed)
        if answer is None:
            answer = getattr(self, "do_" + deed[0])(*deed[1:])
        return ("done" if answer is None else answer), self.strokes

    def refusal(self, deed):
        kind = deed[0]
        if kind in ("put", "end", "drop") and deed[1] not in self.open:
            return "no dealing"
        page = {"put": 2, "look": 1, "carry": 1}.get(kind)
        if page is not None and deed[page] not in range(len(self.desk)):
            return "no page"
        if kind == "put" and [put for put in self.puts if put[0] in self.open and put[0] != deed[1]
                              and put[1] == deed[2]]:
            return "taken"
        more = {"begin": 1, "put": 2}.get(kind)
        if more is not None and not self.has_room(more):
            for page in range(len(self.desk)):
                self.do_carry(page)
            self.do_cut()
            if not self.has_room(more):
                return "no room"
        return None

    def has_room(self, more):
        bound = len(self.open) + len([put for put in self.puts if put[0] in self.open])
        return len(self.log) + bound + more <= self.room

    def write_line(self, line):
        self.strokes.append(("line", line))
        self.log.append(line)
        if line[0] == "put":
            self.desk[line[2]] = line[4]

    def do_begin(self):
        self.open.append(self.begins - 1)
        return self.begins - 1

    def do_put(self, dealing, page, number):
        self.puts.append((dealing, page, self.desk[page]))
        self.write_line(("put", dealing, page, self.desk[page], number))

    def do_end(self, dealing):
        self.write_line(("end", dealing))
        self.open.remove(dealing)

    def do_drop(self, dealing):
        for put in [put for put in self.puts if put[0] == dealing][::-1]:
            self.write_line(("put", dealing, put[1], self.desk[put[1]], put[2]))
        self.do_end(dealing)

    def do_look(self, page):
        return self.desk[page]

    def do_carry(self, page):
        if self.pages[page] != self.desk[page]:
            self.strokes.append(("page", page, self.desk[page]))
            self.pages[page] = self.desk[page]

    def do_cut(self):
        many = 0
        while many < len(self.log) and not is_needed(self.pages, self.desk, self.log, self.open, many):
            many += 1
        if many:
            self.strokes.append(("cut", many))
            self.log = self.log[many:]


def told_day(pages, room, deeds):
    day = ToldDay(pages, room)
    return [day.do(deed) for deed in deeds]


def made_day(seed, pages, room, many_deeds, numbers):
    # Most deeds name an open dealing and a page that there is; now and then they don't, so that they are refused.
    dice = Dice(seed)
    day = ToldDay(pages, room)
    deeds = []
    for count in range(many_deeds):
        kind = dice.one_of(KINDS) if day.open or not dice.below(3) else "begin"
        dealing = dice.one_of(day.open) if day.open and dice.below(12) else dice.below(day.begins + 2) - 1
        page = dice.below(len(pages)) if dice.below(15) else dice.one_of([-1, len(pages), -len(pages)])
        deed = {
            "begin": ("begin",), "put": ("put", dealing, page, dice.one_of(numbers)), "end": ("end", dealing),
            "drop": ("drop", dealing), "look": ("look", page), "carry": ("carry", page), "cut": ("cut",),
        }[kind]
        day.do(deed)
        deeds.append(deed)
    return deeds


def told_pages(pages, deeds, answers, strokes, stop):
    # The pages that point 10 tells, found from the deeds: a dropped dealing adds nothing.
    found = list(pages)
    puts = {}
    made = 0
    for deed, answer, of_deed in zip(deeds, answers, strokes):
        made += len(of_deed)
        if deed[0] == "put" and answer == "done":
            puts.setdefault(deed[1], []).append((deed[2], deed[3]))
        # An end's one stroke is its end line.
        if deed[0] == "end" and answer == "done" and made <= stop:
            for page, number in puts.get(deed[1], []):
                found[page] = number
    return found


def flat(strokes):
    return [stroke for of_deed in strokes for stroke in of_deed]


class WatchedHouse:
    # A house tells none of its strokes: the deeds are written down, so that the day of the same deeds tells them.
    def __init__(self, pages, room):
        self.house = House(pages, room)
        self.pages = list(pages)
        self.room = room
        self.deeds = []

    def __getattr__(self, name):
        def deed(*arguments):
            self.deeds.append((name,) + arguments)
            return getattr(self.house, name)(*arguments)
        return deed

    @property
    def strokes(self):
        return flat(strokes_of(self.pages, self.room, self.deeds))

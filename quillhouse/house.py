"""A house through one day: the deeds on its desk and the strokes that they make in its cellar."""

from quillhouse.cellar import Cellar
from quillhouse.errors import NoDealing, NoPage, NoRoom, Taken
from quillhouse.lines import needed_from


class House:
    def __init__(self, pages, room):
        self.cellar = Cellar(pages, [])
        self.desk = list(pages)
        self.room = room
        self.strokes = []
        self.begins = 0
        # For each open dealing, and for no other, its puts as pairs of the page and the old number.
        self.puts = {}
        # For each page the dealing that took it last; it is taken no more where that one isn't open any more.
        self.takers = {}
        # The bound lines of all open dealings, kept as a count so that no deed has to walk the dealings for it.
        self.bound = 0

    def begin(self):
        dealing = self.begins
        # Counted ahead of the room, as refused begins count too.
        self.begins += 1
        self.ask_room(1)
        self.puts[dealing] = []
        self.bound += 1
        return dealing

    def put(self, dealing, page, number):
        self.ask_dealing(dealing)
        self.ask_page(page)
        self.ask_free(dealing, page)
        self.ask_room(2)
        self.puts[dealing].append((page, self.desk[page]))
        self.takers[page] = dealing
        self.bound += 1
        self.write_put(dealing, page, number)

    def end(self, dealing):
        self.ask_dealing(dealing)
        self.make_stroke(("line", ("end", dealing)))
        self.bound -= len(self.puts.pop(dealing)) + 1

    def drop(self, dealing):
        self.ask_dealing(dealing)
        for page, old in reversed(self.puts[dealing]):
            self.write_put(dealing, page, old)
        self.end(dealing)

    def look(self, page):
        self.ask_page(page)
        return self.desk[page]

    def carry(self, page):
        self.ask_page(page)
        if self.cellar.pages[page] != self.desk[page]:
            self.make_stroke(("page", page, self.desk[page]))

    def cut(self):
        many = needed_from(self.cellar.pages, self.desk, self.cellar.log, list(self.puts))
        if many > 0:
            self.make_stroke(("cut", many))

    def ask_dealing(self, dealing):
        if dealing not in self.puts:
            raise NoDealing(f"dealing {dealing} is not under way")

    def ask_page(self, page):
        if page < 0 or page >= len(self.desk):
            raise NoPage(f"there is no page {page}")

    def ask_free(self, dealing, page):
        taker = self.takers.get(page, dealing)
        if taker != dealing and taker in self.puts:
            raise Taken(f"page {page} is taken by dealing {taker}")

    def ask_room(self, more):
        if not self.has_room(more):
            self.make_room()
            if not self.has_room(more):
                raise NoRoom(f"the log has no room for {more} lines more")

    def has_room(self, more):
        return len(self.cellar.log) + self.bound + more <= self.room

    def make_room(self):
        for page in range(len(self.desk)):
            self.carry(page)
        self.cut()

    def write_put(self, dealing, page, number):
        self.make_stroke(("line", ("put", dealing, page, self.desk[page], number)))
        self.desk[page] = number

    def make_stroke(self, stroke):
        self.cellar.do_stroke(stroke)
        self.strokes.append(stroke)

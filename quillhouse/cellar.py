"""The cellar: its pages and its log, and what the quill's strokes make of them."""


class Cellar:
    def __init__(self, pages, log):
        self.pages = list(pages)
        self.log = list(log)

    def do_stroke(self, stroke):
        if stroke[0] == "line":
            self.log.append(stroke[1])
        elif stroke[0] == "page":
            self.pages[stroke[1]] = stroke[2]
        elif stroke[0] == "cut":
            self.log = self.log[stroke[1]:]


def behind(pages, log, strokes):
    cellar = Cellar(pages, log)
    for stroke in strokes:
        cellar.do_stroke(stroke)
    return (cellar.pages, cellar.log)

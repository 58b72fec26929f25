"""Days that follow one another, each of them stopped, and the coming up behind each."""

from quillhouse.cellar import behind
from quillhouse.day import strokes_of
from quillhouse.rising import up


def came_up(pages, log, halts):
    pages_then = pages
    log_then = log
    for halt in halts:
        cellar = behind(pages_then, log_then, up(pages_then, log_then)[:halt])
        pages_then = cellar[0]
        log_then = cellar[1]
    return behind(pages_then, log_then, up(pages_then, log_then))[0]


def after_days(pages, room, days):
    pages_then = pages
    pages_of_days = []
    for deeds, stop, halts in days:
        strokes = strokes_of_day(pages_then, room, deeds)
        cellar = behind(pages_then, [], strokes[:stop])
        pages_then = came_up(cellar[0], cellar[1], halts)
        pages_of_days.append(pages_then)
    return pages_of_days


def strokes_of_day(pages, room, deeds):
    strokes = []
    for strokes_of_deed in strokes_of(pages, room, deeds):
        strokes.extend(strokes_of_deed)
    return strokes

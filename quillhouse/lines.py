"""The lines of the log: which of them are needed."""


def needed_from(pages, desk, log, dealings):
    # A log may be long and many dealings open: a dict spares a walk of the dealings for each line.
    unended = dict([(dealing, True) for dealing in dealings])
    last_places = last_put_places(log)
    for place, line in enumerate(log):
        if line[0] == "put":
            page = line[2]
            uncarried = last_places[page] == place and pages[page] != desk[page]
            if line[1] in unended or uncarried:
                return place
    return len(log)


def last_put_places(log):
    places = {}
    for place, line in enumerate(log):
        if line[0] == "put":
            places[line[2]] = place
    return places

"""Coming up: what the cellar alone says of the pages, and the strokes that bring it about."""


def wanted(pages, log):
    numbers = list(pages)
    for line in log:
        if line[0] == "put":
            numbers[line[2]] = line[4]
    ended = dict([(line[1], True) for line in log if line[0] == "end"])
    for line in reversed(log):
        if line[0] == "put" and line[1] not in ended:
            numbers[line[2]] = line[3]
    return numbers


def up(pages, log):
    numbers = wanted(pages, log)
    strokes = [("page", page, number) for page, number in enumerate(numbers) if number != pages[page]]
    # The log goes last: as long as a page is not yet as wanted, the log alone tells what is wanted of it.
    if len(log) > 0:
        strokes.append(("cut", len(log)))
    return strokes

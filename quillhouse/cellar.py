"""The cellar: its pages and its log, and what the quill's strokes make of them."""


def behind(pages, log, strokes):
    pages_then = list(pages)
    log_then = list(log)
    for stroke in strokes:
        if stroke[0] == "line":
            log_then.append(stroke[1])
        elif stroke[0] == "page":
            pages_then[stroke[1]] = stroke[2]
        elif stroke[0] == "cut":
            log_then = log_then[stroke[1]:]
    return (pages_then, log_then)

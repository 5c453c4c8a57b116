"""Streams as texts: a row for each, its pages one figure each, with a blank between."""

from cachebet.checks import check_stream
from cachebet.errors import BadStream, BadText

NO_PAGES = "-"
FIGURES = ("0", "1", "2", "3", "4", "5", "6", "7", "8", "9")


def written(streams):
    """Tell the text of a list of streams."""
    if not isinstance(streams, (list, tuple)):
        raise BadStream(0)
    for stream in streams:
        check_stream(stream)
    return "\n".join([row_of(stream) for stream in streams])


def read(text):
    """Tell the list of streams that a text is written of."""
    if not isinstance(text, str):
        raise BadText(0)
    # No stream at all is written as no row at all, not as an empty one.
    rows = text.split("\n") if text else []
    for number, row in enumerate(rows):
        if not is_row(row):
            raise BadText(number)
    streams = [stream_of(row) for row in rows]
    for stream in streams:
        check_stream(stream)
    return streams


def row_of(stream):
    """Tell the row of a stream."""
    if not stream:
        return NO_PAGES
    return " ".join([str(page) for page in stream])


def is_row(row):
    """Tell whether a row is one that is written, of so many pages as may be."""
    return row == NO_PAGES or all([figure in FIGURES for figure in row.split(" ")])


def stream_of(row):
    """Tell the stream of a row."""
    if row == NO_PAGES:
        return ()
    return tuple([int(figure) for figure in row.split(" ")])

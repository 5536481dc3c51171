"""Rules of rewriting looked at: what is told of a text."""

from termpairs.ends import Ends
from termpairs.meeting import Meetings
from termpairs.paths import is_above
from termpairs.reading import book_of
from termpairs.refusals import NotWellMade, OutOfRange, TooGreat, TooLong
from termpairs.terms import Store, written, written_length

MOST_STEPS = 10000
MOST_TOLD = 4194304


class Telling:
    """What is told so far; it is refused as soon as it is too long."""

    def __init__(self, most):
        self.most = most
        self.length = 0
        self.pieces = []

    def tell(self, piece):
        self.make_room(len(piece))
        self.pieces.append(piece)

    def tell_row(self, row):
        # Measured before it is written: names may be long, and a term that is refused may take much memory.
        self.make_room(written_length(row))
        self.pieces.append(written(row))

    def make_room(self, length):
        self.length += length
        if self.length > self.most:
            raise TooLong()


def told(steps, most, text):
    """How many bytes are told, and these; or a refusal alone."""
    try:
        answer = text_told(steps, most, text)
    except OutOfRange:
        return [-2]
    except NotWellMade:
        return [-3]
    except TooGreat:
        return [-4]
    except TooLong:
        return [-1]
    return [len(answer)] + [ord(sign) for sign in answer]


def text_told(steps, most, text):
    if not (0 <= steps <= MOST_STEPS and 0 <= most <= MOST_TOLD):
        raise OutOfRange()
    book = book_of(text)
    meetings = Meetings(Store(), book.rules)
    # All pairs are measured before the first line, since too great a pair is refused ahead of too long a telling.
    found = meetings.found()
    telling = Telling(most)
    tell_rules(telling, book, meetings)
    ends = Ends(book.rules, steps)
    for meeting in found:
        tell_pair(telling, meetings, meeting, ends)
    for row in book.terms:
        tell_term(telling, row, ends)
    return "".join(telling.pieces)


def tell_rules(telling, book, meetings):
    for index, side in enumerate(meetings.firsts):
        goes_down = is_above(meetings.store, book.ranks, side.places, side.rights)
        word = "above" if goes_down else "open"
        number = index + 1
        telling.tell(f"rule {number} {word}\n")


def tell_pair(telling, meetings, meeting, ends):
    rows = meetings.pair_rows(meeting)
    first = meeting[0] + 1
    second = meeting[2] + 1
    # Told ahead of the ends: if it is too long already, they need not be sought.
    tell_rows(telling, f"pair {first} {second}", rows)
    tell_ends(telling, ends.end_of(rows[0]), ends.end_of(rows[1]))
    telling.tell("\n")


def tell_ends(telling, one, other):
    if one is None or other is None:
        telling.tell(" unknown")
    elif one == other:
        tell_rows(telling, " joined", [one])
    else:
        tell_rows(telling, " apart", [one, other])


def tell_term(telling, row, ends):
    end = ends.end_of(row)
    if end is None:
        telling.tell("term unknown")
    else:
        tell_rows(telling, "term", [end])
    telling.tell("\n")


def tell_rows(telling, word, rows):
    telling.tell(word)
    for row in rows:
        telling.tell(" ")
        telling.tell_row(row)

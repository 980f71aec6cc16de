"""The texts of talks."""

from whosetomorrow.errors import BadText
from whosetomorrow.talks import Plain, Report, Talk, is_known
from whosetomorrow.words import find_kind, is_name
from whosetomorrow.wordtext import find_word, word_text

SINGLE_SIGNS = "/;[]()"
RUN_SIGNS = "abcdefghijklmnopqrstuvwxyzI0123456789+-=@#"
OPENING = {"own": "[", "indirect": "("}
CLOSING = {"own": "]", "indirect": ")"}
MANNERS = {"[": "own", "(": "indirect"}


def row_text(row):
    """Return the text of a row."""
    if isinstance(row, Plain):
        return " ".join([row.deed] + [word_text(word) for word in row.words])
    parts = " ".join([word_text(word) for word in row.parts])
    return "/" + parts + " " + OPENING[row.manner] + rows_text(row.rows) + CLOSING[row.manner]


def rows_text(rows):
    """Return the text of rows."""
    return "; ".join([row_text(row) for row in rows])


def talk_text(talk):
    """Return the text of a talk."""
    return rows_text(talk.rows)


def cut_text(text):
    """Return the pieces of a text with their positions; an empty piece marks the end."""
    pieces = []
    begin = None
    for position, sign in enumerate(text):
        if sign in RUN_SIGNS:
            begin = position if begin is None else begin
            continue
        if begin is not None:
            pieces.append((begin, text[begin:position]))
            begin = None
        if sign in SINGLE_SIGNS:
            pieces.append((position, sign))
        elif sign != " ":
            raise BadText(position, "sign")
    if begin is not None:
        pieces.append((begin, text[begin:]))
    pieces.append((len(text), ""))
    return pieces


class PieceReader:
    """Reads the rows of a talk from pieces, one piece after the other."""

    def __init__(self, pieces):
        self.pieces = pieces
        self.at = 0
        self.begun = 0

    def piece(self):
        """Return the piece that comes next; it is empty at the end."""
        return self.pieces[self.at][1]

    def refuse(self, what):
        """Refuse the piece that comes next; if there is none, it is the end that is wrong."""
        position, piece = self.pieces[self.at]
        raise BadText(position, what if piece else "end")

    def step(self):
        """Go on to the next piece."""
        self.at = self.at + 1

    def read_rows(self, closing, around):
        """Return the rows up to a closing piece that stand within so many reports."""
        rows = []
        while True:
            if self.piece() != "/" and not is_name(self.piece()):
                self.refuse("word")
            if len(rows) == 6:
                self.refuse("many")
            rows.append(self.read_report(around) if self.piece() == "/" else self.read_plain())
            if self.piece() == closing:
                return rows
            if self.piece() != ";":
                self.refuse("word")
            self.step()

    def read_plain(self):
        """Return the plain saying whose deed comes next."""
        deed = self.piece()
        self.step()
        words = []
        word = find_word(self.piece())
        while is_known(word):
            if len(words) == 4:
                self.refuse("many")
            words.append(word)
            self.step()
            word = find_word(self.piece())
        return Plain(deed, words)

    def read_part(self, kind):
        """Return the own word of a report that comes next and must be of this kind."""
        word = find_word(self.piece())
        if find_kind(word) != kind:
            self.refuse("word")
        self.step()
        return word

    def read_report(self, around):
        """Return the report that begins here and stands within so many others."""
        if self.begun == 12:
            self.refuse("many")
        self.begun = self.begun + 1
        self.step()
        who = self.read_part("person")
        whom = self.read_part("person")
        day = self.read_part("day")
        place = self.read_part("place")
        if self.piece() not in MANNERS:
            self.refuse("word")
        if around == 4:
            self.refuse("deep")
        manner = MANNERS[self.piece()]
        self.step()
        rows = self.read_rows(CLOSING[manner], around + 1)
        self.step()
        return Report(who, whom, day, place, manner, rows)


def read_talk(text):
    """Return the talk with this text."""
    if not isinstance(text, str):
        raise BadText(0, "text")
    if len(text) > 100000:
        raise BadText(0, "long")
    reader = PieceReader(cut_text(text))
    return Talk(reader.read_rows("", 0))

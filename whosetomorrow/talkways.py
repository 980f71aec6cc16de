"""Ways through a talk: its paths, its word places, its reports and their values."""

from whosetomorrow.errors import BadTalk, BadValues, NoPath
from whosetomorrow.talks import Plain, Report, Talk, is_saying, own_words
from whosetomorrow.words import is_index, is_name, is_sequence, is_unknown, is_whole


def row_at(talk, path):
    """Return the row at a path."""
    if not is_sequence(path) or len(path) == 0:
        raise NoPath(0)
    rows = talk.rows
    row = None
    for index, entry in enumerate(path):
        if not is_index(entry, len(rows)):
            raise NoPath(index)
        row = rows[entry]
        rows = row.rows if isinstance(row, Report) else ()
    return row


def word_at(talk, path, index):
    """Return the word at a word place."""
    words = own_words(row_at(talk, path))
    if not is_index(index, len(words)):
        raise NoPath(len(path))
    return words[index]


def rows_with(rows, path, row):
    """Return rows with another row at a path that leads to one of them or into them."""
    first = path[0]
    new = row
    if len(path) > 1:
        report = rows[first]
        inner = rows_with(report.rows, path[1:], row)
        new = Report(report.who, report.whom, report.day, report.place, report.manner, inner)
    return rows[:first] + (new,) + rows[first + 1:]


def with_row(talk, path, row):
    """Return the talk with another row at a path."""
    row_at(talk, path)
    if not is_saying(row):
        raise BadTalk(tuple(path), "row")
    return Talk(rows_with(talk.rows, path, row))


def with_word(talk, path, index, word):
    """Return the talk with another word at a word place."""
    word_at(talk, path, index)
    old = row_at(talk, path)
    words = own_words(old)
    words = words[:index] + (word,) + words[index + 1:]
    if isinstance(old, Plain):
        return with_row(talk, path, Plain(old.deed, words))
    who, whom, day, place = words
    return with_row(talk, path, Report(who, whom, day, place, old.manner, old.rows))


def rows_below(rows, path):
    """Yield all couples (path, row) of rows that stand in the report at this path."""
    for index, row in enumerate(rows):
        here = path + (index,)
        yield (here, row)
        if isinstance(row, Report):
            yield from rows_below(row.rows, here)


def rows_of(talk):
    """Yield all couples (path, row) in the order of reading."""
    yield from rows_below(talk.rows, ())


def words_of(talk):
    """Yield all triples (path, index, word) in the order of reading."""
    for path, row in rows_of(talk):
        for index, word in enumerate(own_words(row)):
            yield (path, index, word)


def remade_rows(rows, words, manners, start, number):
    """Return rows with other words and manners in place of their own, and where in the words the rest begins.

    The first report in the rows has this number.
    """
    made = []
    at = start
    report = number
    for row in rows:
        if isinstance(row, Plain):
            end = at + len(row.words)
            made.append(Plain(row.deed, words[at:end]))
            at = end
        else:
            who, whom, day, place = words[at:at + 4]
            inner, at = remade_rows(row.rows, words, manners, at + 4, report + 1)
            made.append(Report(who, whom, day, place, manners[report], inner))
            report = report + row.reports
    return (tuple(made), at)


def remade_talk(talk, words, manners):
    """Return the talk with these words, a row in the order of reading, and these manners of its reports."""
    rows, _ = remade_rows(talk.rows, words, manners, 0, 0)
    return Talk(rows)


def told_manners(talk):
    """Return the manners of all reports by their numbers."""
    return tuple([row.manner for path, row in rows_of(talk) if isinstance(row, Report)])


def with_words(talk, words):
    """Return the talk with these words, a row in the order of reading, in place of its own."""
    return remade_talk(talk, words, told_manners(talk))


def report_paths(talk):
    """Return the paths of all reports in the order of reading."""
    return tuple([path for path, row in rows_of(talk) if isinstance(row, Report)])


def report_at(talk, path):
    """Return the report at a path."""
    row = row_at(talk, path)
    if isinstance(row, Plain):
        raise NoPath(len(path))
    return row


def reports_around(talk, path):
    """Return the couples (number, report) of all reports around the row at a path, from outside in."""
    row_at(talk, path)
    around = []
    rows = talk.rows
    number = 0
    for entry in path[:-1]:
        number = number + sum([row.reports for row in rows[:entry]])
        around.append((number, rows[entry]))
        number = number + 1
        rows = rows[entry].rows
    return tuple(around)


def report_number(talk, path):
    """Return the number of the report at a path."""
    report_at(talk, path)
    return report_paths(talk).index(tuple(path))


def unknown_parts(talk):
    """Return the couples (number, index) of all unknown words of reports, ascending."""
    reports = [row for path, row in rows_of(talk) if isinstance(row, Report)]
    return tuple([
        (number, index)
        for number, report in enumerate(reports) for index, word in enumerate(report.parts) if is_unknown(word)
    ])


def absolute_names(talk, head):
    """Return the names of all words with this first entry, each once, ascending."""
    names = [word[1] for path, index, word in words_of(talk) if word[0] == head]
    return tuple(sorted(set(names)))


def names_in(talk):
    """Return the person names of the talk, each once, ascending."""
    return absolute_names(talk, "name")


def places_in(talk):
    """Return the place names of the talk, each once, ascending."""
    return absolute_names(talk, "place")


def find_value(values, number, index):
    """Return the value of an unknown part of a report, or None if it is not there."""
    if not is_sequence(values) or number >= len(values):
        return None
    row = values[number]
    if not is_sequence(row) or len(row) != 4:
        return None
    value = row[index]
    fits = is_whole(value) if index == 2 else is_name(value)
    return value if fits else None


def check_values(talk, values):
    """Return for each report the values of its unknown parts, None elsewhere."""
    if not is_sequence(values):
        raise BadValues(0)
    checked = [[None, None, None, None] for _ in range(talk.reports)]
    for number, index in unknown_parts(talk):
        value = find_value(values, number, index)
        if value is None:
            raise BadValues(number)
        checked[number][index] = value
    return tuple([tuple(row) for row in checked])

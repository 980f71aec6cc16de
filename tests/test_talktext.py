"""[1.11], [1.12]: the texts of talks."""

import random
import re
import unittest

from tests.helper import Case, come, random_talk, report
from whosetomorrow.errors import BadTalk, BadText
from whosetomorrow.talks import Plain, Report, Talk
from whosetomorrow.talktext import read_talk, talk_text

HEAD = "/I you today here "
EXAMPLE = "/@cy I today-1 here [come I today+1; go @bob #rome]"
PARTS = ("person", "person", "day", "place")
OFFSET = r"([+-]([1-9]|[12][0-9]|30))?"
WORD_TEXTS = {
    "person": r"I|you|self|told|somebody|@[a-z]{1,8}",
    "day": rf"someday|(today|that){OFFSET}|=(0|-?[1-9][0-9]{{0,99}})|(then)?(coming|last)[0-6]",
    "place": r"here|there|somewhere|#[a-z]{1,8}",
}
PIECES = """I you self told @bob somebody today today-3 that+4 =-12 coming0 last6 thencoming1 thenlast5 someday here
there #rome somewhere / ; [ ] ( ) come today+0 today+31 that Ia abcdefghi @ @bobbobbob 7 =-0 coming7 / / ; ;""".split()


def deep_text(depth, inside="go", opening="[", closing="]"):
    """Return the text of a row of this depth."""
    return (HEAD + opening) * depth + inside + closing * depth


def kind_of_text(piece):
    """Return the kind of the word with this text, None if there is none."""
    for kind, pattern in WORD_TEXTS.items():
        if re.fullmatch(pattern, piece):
            return kind
    return None


def refused_at(text):
    """Return where and why a text is refused, worked out by a stack of open reports, or None."""
    sign = re.search(r"[^a-zI0-9+\-=@#/;\[\]() ]", text)
    if sign:
        return (sign.start(), "sign")
    pieces = [(found.start(), found.group()) for found in re.finditer(r"[/;\[\]()]|[^/;\[\]() ]+", text)]
    open_reports, rows, words, reports = [], [0], 0, 0
    state = "row"
    for position, piece in pieces:
        if state == "row":
            if piece != "/" and not re.fullmatch("[a-z]{1,8}", piece):
                return (position, "word")
            if rows[-1] == 6:
                return (position, "many")
            rows[-1] += 1
            words = 0
            state = "plain"
            if piece == "/":
                if reports == 12:
                    return (position, "many")
                reports += 1
                state = "parts"
        elif state == "parts":
            if kind_of_text(piece) != PARTS[words]:
                return (position, "word")
            words += 1
            state = "open" if words == 4 else "parts"
        elif state == "open":
            if piece not in ("[", "("):
                return (position, "word")
            if len(open_reports) == 4:
                return (position, "deep")
            open_reports.append({"[": "]", "(": ")"}[piece])
            rows.append(0)
            state = "row"
        elif state == "plain" and kind_of_text(piece) and piece not in ("somebody", "someday", "somewhere"):
            if words == 4:
                return (position, "many")
            words += 1
        elif piece == ";":
            state = "row"
        elif open_reports and piece == open_reports[-1]:
            open_reports.pop()
            rows.pop()
            state = "behind"
        else:
            return (position, "word")
    if state in ("row", "parts", "open") or open_reports:
        return (len(text), "end")
    return None


class TalkTextTest(Case):
    def test_the_example(self):
        talk = Talk([Report(("name", "cy"), ("I",), ("today", -1), ("here",), "own", [
            Plain("come", [("I",), ("today", 1)]), Plain("go", [("name", "bob"), ("place", "rome")])])])
        self.assertEqual(talk_text(talk), EXAMPLE)
        self.assertEqual(read_talk(EXAMPLE), talk)

    def test_both_manners_and_rows(self):
        inner = Report(("somebody",), ("told",), ("one day",), ("somewhere",), "own", [Plain("a", [])])
        talk = Talk([
            Plain("you", []), report("indirect", inner, come(("then last", 0))), Plain("today", [("today", 0)])])
        text = "you; /@cy @dot =3 #rome (/somebody told someday somewhere [a]; come thenlast0); today today"
        self.assertEqual(talk_text(talk), text)
        self.assertEqual(read_talk(text), talk)

    def test_talks_to_depth_4_are_read_back_with_blanks_anywhere(self):
        rng = random.Random(11)
        for _ in range(120):
            talk = random_talk(rng, 4, 6)
            text = talk_text(talk)
            self.assertEqual(read_talk(text), talk)
            pieces = re.findall(r"[/;\[\]()]|[^/;\[\]() ]+", text)
            spread = "".join(piece + " " * rng.randint(1, 3) for piece in pieces)
            self.assertEqual(read_talk("  " + spread), talk)
            tight = re.sub(r" *([/;\[\]()]) *", r"\1", text)
            self.assertEqual(read_talk(tight), talk)

    def test_only_texts_with_the_same_pieces_are_read_as_it(self):
        self.assertEqual(read_talk("come  I"), read_talk(" come I "))
        for text in ("comeI", "come @ bob", "come today +1", "come to day", "come = 5", "come today+1here"):
            self.assertIsInstance(self.error_of(text), BadText)
        self.assertEqual(read_talk("come"), Talk([come()]))
        self.assertNotEqual(read_talk("come; you"), read_talk("come you"))

    def error_of(self, text):
        with self.assertRaises((BadText, BadTalk)) as caught:
            read_talk(text)
        return caught.exception

    def refused_text(self, text, position, what):
        self.refused(BadText(position, what), read_talk, text)
        self.assertEqual(refused_at(text), (position, what))

    def test_no_text(self):
        for thing in (None, 3, True, b"come", ["come"], ("come",), Talk([come()]), object()):
            self.refused(BadText(0, "text"), read_talk, thing)

    def test_100000_and_100001_signs(self):
        self.assertEqual(read_talk("come" + " " * 99996), Talk([come()]))
        self.refused(BadText(0, "long"), read_talk, "come" + " " * 99997)
        self.refused(BadText(0, "long"), read_talk, "%" * 100001)
        self.refused(BadText(0, "sign"), read_talk, "%" * 100000)
        self.refused(BadText(0, "word"), read_talk, "a" * 100000)
        self.refused(BadText(5, "word"), read_talk, "come =" + "9" * 99994)
        self.refused(BadText(1, "word"), read_talk, "/" * 100000)

    def test_strange_signs(self):
        for sign in "ABHJZ_.,:!?%&*{}<>|~`'\"\\^$\t\n":
            self.refused_text(sign, 0, "sign")
            self.refused_text("come I" + sign, 6, "sign")
            self.refused_text("] 7 " + sign + " (" + sign, 4, "sign")
            self.refused_text(EXAMPLE + sign, len(EXAMPLE), "sign")
        self.refused(BadText(1, "sign"), read_talk, "I\u0131")
        self.refused(BadText(0, "sign"), read_talk, "\u00e9")
        self.refused(BadText(4, "sign"), read_talk, "come\u00a0I")

    def test_pieces_that_may_not_stand_there(self):
        for text, position in [
                ("I", 0), (";", 0), ("[", 0), ("]", 0), ("(come)", 0), ("@bob", 0), ("today+1", 0), ("abcdefghi", 0),
                ("thencoming", 0), ("comeI", 0), ("7", 0), ("come come", 5), ("come somebody", 5), ("come someday", 5),
                ("come I somewhere", 7), ("come today+0", 5), ("come I]", 6), ("come I)", 6), ("come [I]", 5),
                ("come /", 5), ("come; ;", 6), ("come;;", 5), ("come I coming7", 7), ("go; I", 4),
                ("//", 1), ("/;", 1), ("/come", 1), ("/today", 1), ("/here", 1), ("/I today", 3), ("/I somewhere", 3),
                ("/I you you", 7), ("/I you here", 7), ("/I you somebody", 7), ("/I you today today", 13),
                ("/I you today someday", 13), ("/I you today here come", 18), ("/I you today here ]", 18),
                ("/I you today here here", 18), ("/I you today here ;", 18), ("/I you today here /", 18),
                (HEAD + "[]", 19), (HEAD + "[;", 19), (HEAD + "[I]", 19), (HEAD + "[[", 19), (HEAD + "[go)", 21),
                (HEAD + "(go]", 21), (HEAD + "[go;]", 22), (HEAD + "[go] go", 23), (HEAD + "[go] I", 23),
                (HEAD + "[go]]", 22), (HEAD + "[go][", 22), (HEAD + "[go])", 22), (HEAD + "[go]/", 22),
                (HEAD + "[go (", 22), (HEAD + "[" + HEAD + "(go])", 40), (HEAD + "[" + HEAD + "(go))", 41)]:
            self.refused_text(text, position, "word")

    def test_a_seventh_row(self):
        six = "; ".join(["go I"] * 6)
        self.assertEqual(len(read_talk(six)), 6)
        self.refused_text(six + "; go", len(six) + 2, "many")
        self.refused_text(six + " ;/", len(six) + 2, "many")
        self.refused_text(six + ";", len(six) + 1, "end")
        self.refused_text(six + "; I", len(six) + 2, "word")
        self.refused_text(six + "; ]", len(six) + 2, "word")
        self.assertEqual(len(read_talk(HEAD + "[" + six + "]").rows[0].rows), 6)
        self.refused_text(HEAD + "(" + six + "; go)", 19 + len(six) + 2, "many")
        self.refused_text(HEAD + "(" + six + "; )", 19 + len(six) + 2, "word")

    def test_a_fifth_word(self):
        self.assertEqual(len(read_talk("go I I I I").rows[0].words), 4)
        self.refused_text("go I I I I I", 11, "many")
        self.refused_text("go I I I I today", 11, "many")
        self.refused_text("go I I I I somebody", 11, "word")
        self.refused_text("go I I I I go", 11, "word")
        self.refused_text("go I I I I /", 11, "word")
        self.refused_text(HEAD + "[go here here here here here]", 42, "many")

    def test_a_thirteenth_report(self):
        twelve = "; ".join([deep_text(4)] * 3)
        self.assertEqual(read_talk(twelve).reports, 12)
        self.refused_text(twelve + "; /", len(twelve) + 2, "many")
        self.refused_text(twelve + "; /oops", len(twelve) + 2, "many")
        self.assertEqual(len(read_talk(twelve + "; go")), 4)
        wide = deep_text(1, "; ".join([deep_text(1)] * 5))
        self.assertEqual(read_talk(wide + ";" + wide).reports, 12)
        self.refused_text(wide + ";" + wide + ";" + wide, 2 * len(wide) + 2, "many")

    def test_a_fifth_nesting(self):
        for opening, closing in ("[]", "()"):
            self.assertEqual(read_talk(deep_text(4, "go", opening, closing)).depth, 4)
            text = deep_text(5, "go", opening, closing)
            self.refused_text(text, 4 * 19 + 18, "deep")
            self.refused_text(text[:4 * 19 + 19], 4 * 19 + 18, "deep")
        self.refused_text(deep_text(4, "/I you today here ]"), 4 * 19 + 18, "word")
        self.refused_text(deep_text(4, "/I you today here"), 4 * 19 + 17, "word")
        self.refused_text((HEAD + "[") * 4 + HEAD, 4 * 19 + 18, "end")
        self.refused_text(deep_text(4, "/I you here"), 4 * 19 + 7, "word")

    def test_cut_off_behind_each_piece(self):
        for text in (EXAMPLE, "go I; " + deep_text(4, "go; come @bob", "(", ")") + " ; go"):
            pieces = list(re.finditer(r"[/;\[\]()]|[^/;\[\]() ]+", text))
            ends = [found.end() for found in pieces]
            for end in [0] + ends[:-1]:
                for blanks in ("", " ", "   "):
                    cut = text[:end] + blanks
                    told = refused_at(cut)
                    if told is None:
                        self.assertIsInstance(read_talk(cut), Talk)
                    else:
                        self.assertEqual(told, (len(cut), "end"))
                        self.refused(BadText(*told), read_talk, cut)
        for text in ("", " ", "     "):
            self.refused_text(text, len(text), "end")

    def test_outside_at_last(self):
        self.refused(BadTalk((0,), "outside"), read_talk, "come self")
        self.refused(BadTalk((1, 0), "outside"), read_talk, "go; " + HEAD + "[come that+1]")
        self.refused(BadTalk((0,), "outside"), read_talk, "/self you today here (come self); come self")
        self.refused_text("come self; come self I here self today self", 33, "many")
        self.refused_text("come self; comes; ]", 18, "word")
        self.assertEqual(read_talk(HEAD + "(come self)").depth, 1)

    def test_broken_texts_against_a_stack(self):
        rng = random.Random(12)
        for _ in range(1500):
            pieces = re.findall(r"[/;\[\]()]|[^/;\[\]() ]+", talk_text(random_talk(rng, 4, 4)))
            for _ in range(rng.randint(1, 2)):
                at = rng.randrange(len(pieces) + 1)
                pieces[at:at + rng.randint(0, 2)] = rng.choices(PIECES, k=rng.randint(0, 2))
            text = " ".join(pieces)
            told = refused_at(text)
            if told is not None:
                self.refused(BadText(*told), read_talk, text)
            else:
                try:
                    self.assertEqual(read_talk(talk_text(read_talk(text))), read_talk(text))
                except BadTalk as error:
                    self.assertEqual(error.what, "outside")

    def test_deeds_may_be_any_names(self):
        for deed in ("you", "today", "here", "somebody", "last", "i", "abcdefgh", "that"):
            self.assertEqual(read_talk(deed), Talk([Plain(deed, [])]))
            self.assertEqual(read_talk(HEAD + "[" + deed + "]").rows[0].rows, (Plain(deed, ()),))
        self.assertEqual(read_talk("you you today today").rows[0].words, (("you",), ("today", 0), ("today", 0)))


if __name__ == "__main__":
    unittest.main()

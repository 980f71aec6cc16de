"""[10.5] to [10.10]: promise books."""

import random
import unittest

from tests.helper import NO_NAMES, NO_WHOLES, SHIFT, STAY, TONGUES, Case
from tests.letterkit import small_talk
from tests.promisekit import told_promise
from whosetomorrow.errors import BadDeed, BadValues, NoPromise
from whosetomorrow.found import Reading
from whosetomorrow.promisebook import Hearsay, Promise, PromiseBook
from whosetomorrow.situations import Situation
from whosetomorrow.talks import Plain
from whosetomorrow.talktext import read_talk
from whosetomorrow.talkways import reports_around, rows_of

HERE = Situation("ann", "bob", 10, "rome")
FIRST = Promise(1, "ann", "bob", "come", 11, "rome", 10)


TEXTS = [
    "come @ann =1 #oslo", "come @ann =1 here", "come I =1", "/@ann @bob =0 here [come I =1 #oslo; come I =1]",
    "/@bob @ann =0 here (come self =1 there; come self =1)", "come @bob =1 #oslo; /@ann @bob =0 here (come self =1 #oslo)",
]


def told(thing):
    """Return all of a promise or of hearsay but its number and tellers."""
    return (thing.name, thing.whom, thing.deed, thing.date, thing.place, thing.said_on)


class Told:
    """A promise book kept another way: by lists that are gone through anew for each question."""

    def __init__(self, tongue):
        self.tongue = tongue
        self.promises, self.hearsay, self.back, self.deeds = [], [], [], []

    def hear(self, talk, situation, values):
        """Hear a talk; return the new numbers."""
        new = []
        reading = Reading(self.tongue, situation, values)
        for path, row in rows_of(talk):
            found = told_promise(talk, path, reading) if isinstance(row, Plain) else None
            if found and len(path) == 1:
                new.append(len(self.promises) + 1)
                self.promises.append(Promise(new[-1], *found))
            elif found:
                tellers = [situation.teller]
                for number, report in reports_around(talk, path):
                    tellers.append(self.who_of(talk, path, len(tellers), reading))
                self.hearsay.append(Hearsay(len(self.hearsay) + 1, tuple(tellers), *found))
        return tuple(new)

    def who_of(self, talk, path, depth, reading):
        """Return the who of the report around a path at a depth."""
        from tests.letterkit import heard_in
        rows = heard_in(talk, reading)
        for entry in path[:depth]:
            row = rows[entry]
            rows = row[6] if row[0] == "report" else ()
        return row[1][1]

    def fate(self, number, date):
        """Tell how a promise stands on a date."""
        promise = self.promises[number - 1]
        done = [deed for deed in self.deeds if deed[0] == promise.name and deed[1] == promise.deed
                and (promise.place is None or promise.place == deed[3]) and deed[2] <= date]
        if number in self.back:
            return "back"
        if any(deed[2] == promise.date for deed in done):
            return "kept"
        if date < promise.date:
            return "ahead"
        if date == promise.date:
            return "due"
        return "late" if any(deed[2] > promise.date for deed in done) else "broken"

    def clashing(self):
        """Return the couples of promises that clash."""
        return tuple(
            (one.number, two.number) for one in self.promises for two in self.promises
            if one.number < two.number and not {one.number, two.number} & set(self.back)
            and one.name == two.name and one.date == two.date and None not in (one.place, two.place)
            and one.place != two.place)

    def borne_out(self):
        """Return the couples of hearsay and promise that are one."""
        return tuple(
            (one.number, two.number) for one in self.hearsay for two in self.promises if told(one) == told(two))


class ResultTest(Case):
    def test_what_is_given_is_kept(self):
        tellers = ["ann"]
        self.assertIs(Hearsay(1, tellers, 2, 3, 4, 5, 6, 7).tellers, tellers)
        self.assertEqual(vars(Promise(1, 2, 3, 4, 5, None, 7)), {
            "number": 1, "name": 2, "whom": 3, "deed": 4, "date": 5, "place": None, "said_on": 7})
        self.assertEqual(list(vars(Hearsay(1, (), 2, 3, 4, 5, 6, 7))), [
            "number", "tellers", "name", "whom", "deed", "date", "place", "said_on"])

    def test_equality(self):
        rows = [1, "ann", "bob", "come", 11, "rome", 10]
        others = [Promise(*rows[:at], "x", *rows[at + 1:]) for at in range(7)]
        self.equal_only((FIRST, Promise(*rows)), others + [Hearsay(1, (), *rows[1:])])
        rows = [1, ("ann",), "ann", "bob", "come", 11, "rome", 10]
        others = [Hearsay(*rows[:at], "x", *rows[at + 1:]) for at in range(8)]
        self.equal_only((Hearsay(*rows), Hearsay(*rows)), others + [FIRST])


class BookCase(Case):
    def state(self, book):
        """Return all that a book tells."""
        return (book.tongue, book.promises, book.hearsay, book.binding, len(book), list(book), book.clashing(),
                book.borne_out())

    def check(self, book, other):
        """Check that a book tells the same as one kept another way."""
        self.assertEqual(book.promises, tuple(other.promises))
        self.assertEqual(book.hearsay, tuple(other.hearsay))
        self.assertEqual(book.binding, tuple(
            promise.number for promise in other.promises if promise.number not in other.back))
        self.assertEqual(len(book), len(book.binding))
        self.assertEqual(list(book), other.promises)
        self.assertEqual(book.clashing(), other.clashing())
        self.assertEqual(book.borne_out(), other.borne_out())
        for thing in (book.promises, book.hearsay, book.binding, book.clashing(), book.borne_out()):
            self.tuples_only(thing)


class HearTest(BookCase):
    def test_a_new_book(self):
        book = PromiseBook(SHIFT)
        self.assertEqual(self.state(book), (SHIFT, (), (), (), 0, [], (), ()))

    def test_promises_and_hearsay(self):
        book = PromiseBook(STAY)
        talk = read_talk(
            "come I today+1 here; come I today-1; /@cy I today-3 #oslo [go I today+9; /@dot you =6 here (stay self that "
            "@bob here)]; go @ann =10")
        self.assertEqual(book.hear(talk, HERE), (1, 2))
        self.assertEqual(book.promises, (FIRST, Promise(2, "ann", "bob", "go", 10, None, 10)))
        self.assertEqual(book.hearsay, (
            Hearsay(1, ("ann", "cy"), "cy", "ann", "go", 16, None, 7),
            Hearsay(2, ("ann", "cy", "dot"), "dot", "ann", "stay", 6, "oslo", 6)))
        self.assertEqual(book.hear(read_talk("stay @bob today"), Situation("bob", "cy", 3, "oslo"), []), (3,))
        self.assertEqual(book.hear(read_talk("stay @bob today"), HERE), ())
        self.assertEqual([promise.number for promise in book], [1, 2, 3])

    def test_values_and_refused_calls(self):
        book = PromiseBook(STAY)
        talk = read_talk("come I today; /somebody you someday here (go self that)")
        book.hear(read_talk("come I today"), HERE)
        before = self.state(book)
        for values in (None, (), [(1, 1, 1, 1)], [("cy", 0, None, 0)], 3):
            self.refused(BadValues(0), book.hear, talk, HERE, values)
            self.refused(BadValues(0), book.hear, talk, HERE)
            self.assertEqual(self.state(book), before)
        self.assertEqual(book.hear(talk, HERE, [("cy", 0, 4, 0)]), (2,))
        self.assertEqual(book.hearsay, (Hearsay(1, ("ann", "cy"), "cy", "bob", "go", 4, None, 4),))

    def test_the_tongue(self):
        talk = read_talk("/@cy I today-3 here (go I that)")
        book, shifting = PromiseBook(STAY), PromiseBook(SHIFT)
        book.hear(talk, HERE)
        shifting.hear(talk, HERE)
        self.assertEqual((len(book.hearsay), len(shifting.hearsay)), (0, 1))

    def test_a_list_changed_later(self):
        book = PromiseBook(STAY)
        values = [["cy", "dot", 4, "oslo"]]
        book.hear(read_talk("/somebody you someday somewhere (go self that there)"), HERE, values)
        before = book.hearsay
        values[0][0] = "eve"
        values.clear()
        self.assertEqual(book.hearsay, before)
        self.assertEqual(book.hearsay[0].place, "oslo")


class BackTest(BookCase):
    def test_taking_back(self):
        book = PromiseBook(STAY)
        book.hear(read_talk("come I today here; go I today; come I today #oslo"), HERE)
        self.assertEqual(book.clashing(), ((1, 3),))
        for number in NO_WHOLES + [0, 4]:
            self.refused(NoPromise(number), book.take_back, number)
        self.assertEqual(book.binding, (1, 2, 3))
        self.assertIsNone(book.take_back(2))
        self.assertEqual((book.binding, len(book), len(book.promises)), ((1, 3), 2, 3))
        self.assertIsNone(book.take_back(1))
        self.assertEqual((book.binding, book.clashing()), ((3,), ()))
        before = self.state(book)
        for number in NO_WHOLES + [0, -1, 4, 1, 2, 10 ** 30]:
            self.refused(NoPromise(number), book.take_back, number)
            self.assertEqual(self.state(book), before)
        self.assertEqual([promise.number for promise in book], [1, 2, 3])
        self.assertEqual(book.hear(read_talk("come I today here"), HERE), (4,))
        self.assertEqual(book.clashing(), ((3, 4),))


class DeedTest(BookCase):
    def test_bad_deeds_in_their_order(self):
        book = PromiseBook(STAY)
        for no in NO_NAMES:
            self.refused(BadDeed("name"), book.do_deed, no, None, None, place=3)
            self.refused(BadDeed("deed"), book.do_deed, "ann", no, None, place=3)
            if no is not None:
                self.refused(BadDeed("place"), book.do_deed, "ann", "come", 3, place=no)
        for no in NO_WHOLES:
            self.refused(BadDeed("date"), book.do_deed, "ann", "come", no, place=3)
        book.hear(read_talk("come I today"), HERE)
        self.assertEqual(book.fate_of(1, 10), "due")
        self.assertIsNone(book.do_deed("ann", "come", 10))
        self.assertIsNone(book.do_deed("ann", "come", 10, place="oslo"))

    def test_each_fate_on_the_dates_around(self):
        book = PromiseBook(STAY)
        book.hear(read_talk("come I =20 here"), HERE)

        def fates():
            return [book.fate_of(1, date) for date in (9, 19, 20, 21, 24, 25, 99)]

        self.assertEqual(fates(), ["ahead", "ahead", "due"] + ["broken"] * 4)
        for name, deed, date, place in [
                ("bob", "come", 20, "rome"), ("ann", "go", 20, "rome"), ("ann", "come", 20, "oslo"), ("ann", "come", 20, None),
                ("ann", "come", 19, "rome")]:
            book.do_deed(name, deed, date, place=place)
            self.assertEqual(fates(), ["ahead", "ahead", "due"] + ["broken"] * 4)
        book.do_deed("ann", "come", 25, place="rome")
        self.assertEqual(fates(), ["ahead", "ahead", "due", "broken", "broken", "late", "late"])
        book.do_deed("ann", "come", 20, place="rome")
        self.assertEqual(fates(), ["ahead", "ahead"] + ["kept"] * 5)
        book.take_back(1)
        self.assertEqual(fates(), ["back"] * 7)

    def test_a_promise_without_a_place_and_one_heard_later(self):
        book = PromiseBook(STAY)
        book.do_deed("ann", "come", 11)
        book.do_deed("ann", "go", 11, place="oslo")
        book.hear(read_talk("come I today+1; go I today+1; come I today+1 here; go I today+1 #oslo"), HERE)
        self.assertEqual([book.fate_of(number, 12) for number in (1, 2, 3, 4)], ["kept", "kept", "broken", "kept"])
        self.assertEqual([book.fate_of(number, 10) for number in (1, 2, 3, 4)], ["ahead"] * 4)

    def test_errors_of_fate_of(self):
        book = PromiseBook(STAY)
        book.hear(read_talk("come I today"), HERE)
        for number in NO_WHOLES + [0, 2, -1]:
            self.refused(NoPromise(number), book.fate_of, number, None)
        for date in NO_WHOLES:
            self.refused(BadDeed("date"), book.fate_of, 1, date)
        book.take_back(1)
        self.refused(BadDeed("date"), book.fate_of, 1, True)
        self.assertEqual(book.fate_of(1, -10 ** 30), "back")


class WholeTest(BookCase):
    def test_after_every_call(self):
        rng = random.Random(171)
        fates = set()
        most = [0, 0]
        for _ in range(60):
            tongue = rng.choice(TONGUES)
            book, other = PromiseBook(tongue), Told(tongue)
            for _ in range(rng.randint(5, 40)):
                kind = rng.random()
                if kind < 0.5:
                    talk = small_talk(rng) if rng.random() < 0.3 else read_talk(rng.choice(TEXTS))
                    situation = Situation(
                        rng.choice(["ann", "ann", "bob"]), rng.choice(["ann", "bob"]), rng.choice([0, 0, 1]), rng.choice(["rome", "oslo"]))
                    values = [(rng.choice(["ann", "bob"]), rng.choice(["ann", "bob"]), rng.randint(-2, 2), "oslo")] * 3
                    self.assertEqual(book.hear(talk, situation, values), other.hear(talk, situation, values))
                elif kind < 0.65:
                    number = rng.randint(0, len(other.promises) + 1)
                    if 1 <= number <= len(other.promises) and number not in other.back:
                        book.take_back(number)
                        other.back.append(number)
                    else:
                        self.refused(NoPromise(number), book.take_back, number)
                else:
                    deed = (rng.choice(["ann", "bob"]), rng.choice(["come", "go"]), rng.randint(-3, 8),
                            rng.choice([None, "rome", "oslo"]))
                    book.do_deed(*deed[:3], place=deed[3])
                    other.deeds.append(deed)
                self.check(book, other)
                for promise in other.promises:
                    for date in range(promise.date - 1, promise.date + 3):
                        self.assertEqual(book.fate_of(promise.number, date), other.fate(promise.number, date))
                        fates.add(other.fate(promise.number, date))
            most = [max(most[0], len(book.clashing())), max(most[1], len(book.borne_out()))]
        self.assertEqual(fates, {"back", "kept", "ahead", "due", "late", "broken"})
        self.assertGreater(min(most), 1)

    def test_the_other_order_of_hearing(self):
        rng = random.Random(172)
        for _ in range(25):
            heard = [(small_talk(rng), Situation(rng.choice(["ann", "bob"]), "cy", rng.randint(-1, 1), "rome"),
                      [("ann", "bob", 0, "oslo")] * 3) for _ in range(6)]
            one, other = PromiseBook(STAY), PromiseBook(STAY)
            for call in heard:
                one.hear(*call)
            for call in reversed(heard):
                other.hear(*call)
            for book in (one, other):
                book.do_deed("ann", "come", 1)
            self.assertEqual(self.unnumbered(one), self.unnumbered(other))

    def unnumbered(self, book):
        """Return all that a book tells, without the numbers."""
        promises = {promise.number: repr(told(promise)) for promise in book.promises}
        hearsay = {thing.number: repr((thing.tellers, told(thing))) for thing in book.hearsay}
        fates = [(promises[number], [book.fate_of(number, date) for date in range(-3, 5)]) for number in promises]
        return (
            sorted(promises.values()), sorted(hearsay.values()), sorted(map(repr, fates)),
            sorted(sorted([promises[one], promises[other]]) for one, other in book.clashing()),
            sorted((hearsay[one], promises[other]) for one, other in book.borne_out()))

    def test_what_was_told_stays_as_it_was(self):
        book = PromiseBook(STAY)
        book.hear(read_talk("come I today"), HERE)
        promises, binding = book.promises, book.binding
        seen = [promise.number for promise in book]
        for _ in book:
            book.hear(read_talk("go I today"), HERE)
        book.take_back(1)
        self.assertEqual((promises, binding, seen), ((Promise(1, "ann", "bob", "come", 10, None, 10),), (1,), [1]))
        self.assertEqual(len(book.promises), 2)

    def test_properties_are_not_set(self):
        book = PromiseBook(STAY)
        for name in ("promises", "hearsay", "binding"):
            self.assertIsInstance(getattr(PromiseBook, name), property)
            with self.assertRaises(AttributeError):
                setattr(book, name, ())


if __name__ == "__main__":
    unittest.main()

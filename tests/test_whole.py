"""[0.3] to [0.6], [1.2], [5.1]: what holds over the whole package, side by side."""

import importlib
import inspect
import unittest

from tests.helper import SHIFT, STAY, TONGUES, Case, come
from whosetomorrow import errors
from whosetomorrow.alike import Parted
from whosetomorrow.bench import Bench
from whosetomorrow.changes import apply_changes
from whosetomorrow.chains import Closed, TalkErr, WrongChain
from whosetomorrow.clues import Unsettled, least_clues, unsettled_by
from whosetomorrow.crossing import put_over, safe_words, words_to_change
from whosetomorrow.errors import BadTongues, NoFit, NoPath, TalkError
from whosetomorrow.facts import Facts
from whosetomorrow.firstwords import count_first_talks, first_talk_at, first_words, number_of_first
from whosetomorrow.found import Both, FoundLetter, Never, Reading, Sure, a_reading, match_saying, match_word
from whosetomorrow.foundrange import CanBe, days_can, is_open_word, settled_words, sure_meaning, who_can
from whosetomorrow.hearing import level_at, meaning_at, said_alone, situation_within
from whosetomorrow.joined import joined_values, one_report
from whosetomorrow.mends import Mends, Spoiler
from whosetomorrow.menus import Menu
from whosetomorrow.origins import Origins, is_origin, origins_of
from whosetomorrow.passing import tellings_of
from whosetomorrow.promisebook import Hearsay, Promise
from whosetomorrow.promises import clash_case, do_clash, is_promise, promise_case
from whosetomorrow.reasons import Reason
from whosetomorrow.retelling import retold
from whosetomorrow.rewording import Differs
from whosetomorrow.roads import places_hanging, road_of
from whosetomorrow.safety import Unsafe, is_safe, unsafe_place
from whosetomorrow.samebooks import PartingChain
from whosetomorrow.scribes import Book, Step, handed_on, word_chain
from whosetomorrow.situations import Situation, Tongue
from whosetomorrow.sure import Unsure
from whosetomorrow.talks import Plain, Report, Talk
from whosetomorrow.talktext import read_talk
from whosetomorrow.talkways import report_number, row_at, with_row, with_word, word_at
from whosetomorrow.tellers import fitting_tongues, least_tellers, untold_pair
from whosetomorrow.termlevels import terms_at, terms_within
from whosetomorrow.tonguegroups import check_tongues, forms_by, shifts_of_word
from whosetomorrow.wishes import Miss, find_miss

HERE = Situation("ann", "bob", 10, "rome")
TALK = read_talk("come I today+1; /@cy I someday here (go self that; /@dot I today here [come I])")
NONE = Facts([])
ROWS = (("cy", "dot", 3, "oslo"),) * 12
MODULES = (
    "errors words situations talks talkways along wordtext talktext levels hearing roads sevens terms termlevels forms "
    "alike sayback facts clashes lots days fitting reasons sure tonguegroups safety menus crossing tellers rightwords "
    "rewording retelling scribes chains samebooks bookmends firstwords origins joined passing found foundrange clues "
    "promises promisebook changes wishes mends bench").split()
RESULTS = {
    Parted: 4, Reason: 2, Unsure: 4, Unsafe: 4, Differs: 4, Closed: 1, WrongChain: 2, TalkErr: 3, PartingChain: 2, Origins: 4,
    Reading: 3, Sure: 0, Never: 0, Both: 2, CanBe: 2, Unsettled: 2, Promise: 7, Hearsay: 8, Miss: 2, Mends: 2, Spoiler: 3,
}


class ErrorsTest(Case):
    def all_errors(self):
        """Return all errors that any module binds."""
        found = set()
        for module in MODULES:
            for thing in vars(importlib.import_module(f"whosetomorrow.{module}")).values():
                if inspect.isclass(thing) and issubclass(thing, Exception) and thing is not TalkError:
                    found.add(thing)
        return found

    def test_all_stand_directly_under_talk_error_in_one_file(self):
        for error in self.all_errors():
            self.assertEqual(error.__bases__, (TalkError,))
            self.assertEqual(error.__module__, "whosetomorrow.errors")

    def test_each_error_of_the_file_is_raised_somewhere(self):
        told = {thing for thing in vars(errors).values() if inspect.isclass(thing)} - {TalkError}
        self.assertEqual(told, self.all_errors())

    def test_arguments_are_kept_as_they_are(self):
        for error in self.all_errors():
            names = list(inspect.signature(error).parameters)
            things = [object() if name not in ("path", "what", "position", "index", "word", "numbers") else (at,)
                      for at, name in enumerate(names)]
            made = error(*things)
            self.assertEqual(list(vars(made)), names)
            for name, thing in zip(names, things):
                self.assertIs(getattr(made, name), thing)


class ResultsTest(Case):
    def test_the_very_things_are_kept(self):
        for result, count in RESULTS.items():
            things = [object() for _ in range(count)]
            made = result(*things)
            names = list(inspect.signature(result).parameters)
            self.assertEqual(list(vars(made)), names)
            for name, thing in zip(names, things):
                self.assertIs(getattr(made, name), thing)

    def test_equality_side_by_side(self):
        for result, count in RESULTS.items():
            one, other = result(*range(count)), result(*range(count))
            others = [result(*range(at), "x", *range(at + 1, count)) for at in range(count)]
            others += [another(*range(size)) for another, size in RESULTS.items() if another is not result]
            self.equal_only((one, other), others)

    def test_equality_goes_on_within(self):
        reading = Reading(Tongue(True, True, True, True), HERE, ROWS)
        self.equal_only((Miss(0, (reading,)), Miss(0, (Reading(SHIFT, HERE.moved(0), tuple(ROWS)),))), [
            Miss(0, (Reading(STAY, HERE, ROWS),))])
        chain = WrongChain(HERE, (Step(0, "ann", "rome"),))
        self.equal_only((TalkErr((0,), 0, chain), TalkErr((0,), 0, WrongChain(HERE, (Step(0, "ann", "rome"),)))), [
            TalkErr((0,), 0, PartingChain(HERE, (Step(0, "ann", "rome"),)))])


class TonguesTest(Case):
    def calls(self, tongues, talk=TALK):
        """Return calls of all functions and constructors that take tongues."""
        menu = Menu()
        return [
            (check_tongues, (tongues,)), (forms_by, (talk, tongues)), (is_safe, (talk, tongues)), (unsafe_place, (talk, tongues)),
            (safe_words, (talk, STAY, (0,), 0, tongues, menu)), (put_over, (talk, STAY, tongues, menu)),
            (words_to_change, (talk, STAY, tongues)), (fitting_tongues, ([], tongues)), (untold_pair, ([], tongues)),
            (least_tellers, ([], tongues)), (FoundLetter, (talk, tongues, NONE)),
        ]

    def test_what_are_no_tongues(self):
        for tongues, index in [
                (None, 0), ((), 0), ([], 0), (STAY, 0), ("ab", 0), ([STAY] * 17, 0), ({1: STAY}, 0), ([STAY, None], 1),
                ([STAY, SHIFT, (True,) * 4], 2), ([True], 0), ([STAY, STAY, STAY.shifts, 3], 2)]:
            for function, arguments in self.calls(tongues):
                self.refused(BadTongues(index), function, *arguments)

    def test_equal_tongues_count_once(self):
        twice = [SHIFT, STAY, Tongue(True, True, True, True), STAY]
        once = (SHIFT, STAY)
        for (function, arguments), (_, others) in zip(self.calls(twice), self.calls(once)):
            if function not in (put_over, words_to_change):
                self.assertEqual(function(*arguments), function(*others), function)
        self.assertEqual(FoundLetter(TALK, twice, NONE).tongues, once)
        self.assertEqual(forms_by(TALK, twice)[0][1][0], SHIFT)

    def test_sixteen_are_let(self):
        for function, arguments in self.calls(list(TONGUES), Talk([come(("name", "ann"))])):
            result = function(*arguments)
            if inspect.isgenerator(result):
                list(result)


class ChangedListsTest(Case):
    def test_constructors(self):
        rows = [("today", 0, 9, 0, None, "keep")]
        book = Book(rows, [], [])
        words = [("I",)]
        plain = Plain("come", words)
        sayings = [plain]
        report = Report(("I",), ("you",), ("today", 0), ("here",), "own", sayings)
        talk = Talk(sayings)
        facts_rows = [("same", ("T",), ("H",))]
        facts = Facts(facts_rows)
        tongues = [STAY]
        found = FoundLetter(talk, tongues, facts)
        names, places, dates = ["ann"], ["rome"], [3]
        menu = Menu(names, places, dates)
        before = (len(book), plain.words, report.rows, talk.rows, facts.rows, found.tongues, menu.rows)
        for changed in (rows, words, sayings, facts_rows, tongues, names, places, dates):
            changed.append(changed[0])
            changed[0] = None
        self.assertEqual((len(book), plain.words, report.rows, talk.rows, facts.rows, found.tongues, menu.rows), before)

    def test_attributes_are_tuples(self):
        book = Book([["today", 0, 9, 0, None, "keep"]], [["I", None, None, "I"]], [])
        for thing in (book.days, book.persons, book.places, book.rules, list(book)[0]):
            self.tuples_only(thing)
        bench = Bench(FoundLetter(TALK, [STAY], NONE))
        bench.put(["add", [0], 1, 1])
        for thing in (bench.standing, bench.log, bench.letter.tongues, Menu(["ann"]).names, Facts([]).rows):
            self.tuples_only(thing)

    def test_results_do_not_hang_on_lists_passed_in(self):
        found = FoundLetter(TALK, [STAY], NONE)
        path = [1]
        meaning = match_word(found, path, 0, ("name", "cy"))
        path.append(9)
        self.assertEqual(meaning, Sure())
        place = [1, 0]
        new = with_word(TALK, place, 0, ("told",))
        place[0] = 0
        self.assertEqual(word_at(new, (1, 0), 0), ("told",))
        steps = [Step(0, "cy", "oslo")]
        talk, situation = handed_on(Talk([come(("I",))]), HERE, Book.plain(), steps)
        steps.clear()
        self.assertEqual((talk, situation), (Talk([come(("name", "ann"))]), Situation("bob", "cy", 10, "oslo")))
        changes = [("add", (0,), 1, 1)]
        letter = apply_changes(found, changes)
        changes.clear()
        self.assertEqual(word_at(letter.talk, (0,), 1), ("today", 2))

    def test_nothing_passed_in_is_changed(self):
        steps = [Step(0, "cy", "oslo")] * 2
        list(word_chain(Book.plain(), ("I",), HERE, steps))
        self.assertEqual(steps, [Step(0, "cy", "oslo")] * 2)
        clues = [("tongue",), ("person", ("T",))]
        found = FoundLetter(TALK, [STAY, SHIFT], NONE)
        least_clues(found, (0,), 0, clues)
        self.assertEqual(clues, [("tongue",), ("person", ("T",))])
        wishes = [["safe"]]
        find_miss(found, wishes)
        self.assertEqual(wishes, [["safe"]])


class PathsTest(Case):
    def test_true_is_no_number_of_a_path_anywhere(self):
        found = FoundLetter(TALK, [STAY], NONE)
        reading = a_reading(found)
        for path, index in [((True,), 0), ((1, False), 1), (True, 0), ((), 0), ([1, True], 1), ((1.0,), 0)]:
            for function, arguments in [
                    (row_at, (TALK, path)), (word_at, (TALK, path, 0)), (with_row, (TALK, path, come())),
                    (with_word, (TALK, path, 0, ("I",))), (report_number, (TALK, path)),
                    (level_at, (TALK, path, HERE, STAY, ROWS)), (meaning_at, (TALK, path, 0, HERE, STAY, ROWS)),
                    (situation_within, (TALK, path, HERE, STAY, ROWS)), (said_alone, (TALK, path)), (road_of, (TALK, path, 0, STAY)),
                    (places_hanging, (TALK, path, 0, STAY)), (terms_at, (TALK, path, STAY)), (shifts_of_word, (TALK, path, 0)),
                    (safe_words, (TALK, STAY, path, 0, [STAY], Menu())), (retold, (TALK, path, STAY, NONE, Menu())),
                    (first_words, (TALK, path, (1, 0), 0, STAY)), (first_words, (TALK, (1,), path, 0, STAY)),
                    (count_first_talks, (TALK, path, STAY)), (first_talk_at, (TALK, path, STAY, 0)),
                    (number_of_first, (TALK, path, STAY, TALK)), (origins_of, (TALK, path, TALK, STAY)),
                    (is_origin, (TALK, path, TALK, STAY, None)), (one_report, (TALK, path, STAY)),
                    (joined_values, (TALK, path, STAY, ROWS)), (tellings_of, (TALK, path, HERE, STAY, ROWS)),
                    (match_word, (found, path, 0, None)), (match_saying, (found, path, "come", ())), (who_can, (found, path, 0, ())),
                    (days_can, (found, path, 0)), (sure_meaning, (found, path, 0)), (is_open_word, (found, path, 0)),
                    (unsettled_by, (found, path, 0, ())), (least_clues, (found, path, 0, ())), (is_promise, (TALK, path, reading)),
                    (do_clash, (TALK, path, (0,), reading)), (do_clash, (TALK, (0,), path, reading)), (promise_case, (found, path)),
                    (clash_case, (found, path, (0,))), (clash_case, (found, (0,), path))]:
                self.refused(NoPath(index), function, *arguments)
            if path != ():
                self.refused(NoPath(index), terms_within, TALK, path, STAY)

    def test_true_is_no_index_anywhere(self):
        found = FoundLetter(TALK, [STAY], NONE)
        for index in (True, False, None, "0", -1, 9, 0.0):
            for function, arguments in [
                    (word_at, (TALK, [0], index)), (with_word, (TALK, [0], index, ("I",))), (meaning_at, (TALK, [0], index, HERE, STAY, ROWS)),
                    (road_of, (TALK, [0], index, STAY)), (places_hanging, (TALK, [0], index, STAY)), (shifts_of_word, (TALK, [0], index)),
                    (match_word, (found, [0], index, None)), (who_can, (found, [0], index, None)), (days_can, (found, [0], index)),
                    (sure_meaning, (found, [0], index)), (is_open_word, (found, [0], index)), (unsettled_by, (found, [0], index, None)),
                    (least_clues, (found, [0], index, None))]:
                self.refused(NoPath(1), function, *arguments)

    def test_clashing_facts_ahead_of_all(self):
        clash = Facts([("unlike", ("T",), ("T",))])
        self.refused(NoFit((0,)), retold, TALK, None, STAY, clash, Menu())
        self.refused(NoFit((0,)), FoundLetter, TALK, [STAY], clash)

    def test_generators_may_be_begun_twice(self):
        found = FoundLetter(TALK, [STAY], NONE)
        self.assertEqual(list(settled_words(found)), list(settled_words(found)))


if __name__ == "__main__":
    unittest.main()

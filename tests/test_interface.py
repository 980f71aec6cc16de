"""The interface: each name stands in its file, with its arguments, and each method in its class."""

import ast
import importlib
import inspect
import pathlib
import unittest

PACKAGE = pathlib.Path(__file__).resolve().parent.parent / "whosetomorrow"

FUNCTIONS = """
words: find_kind(thing) kind_of(word) check_word(word) is_whole(thing) is_name(thing) is_unknown(word)
words: is_absolute(word) needs_report(word)
situations: all_tongues() exchange_name(name,one,other)
talkways: row_at(talk,path) word_at(talk,path,index) with_row(talk,path,row) with_word(talk,path,index,word)
talkways: rows_of(talk) words_of(talk) report_paths(talk) unknown_parts(talk) names_in(talk) places_in(talk)
talkways: check_values(talk,values) report_number(talk,path)
along: word_along(word,days) word_exchanged(word,one,other) talk_along(talk,days) talk_exchanged(talk,one,other)
along: values_along(talk,values,days) values_exchanged(talk,values,one,other)
wordtext: word_text(word) read_word(text)
talktext: talk_text(talk) read_talk(text)
levels: outer_level(situation) inner_level(level,own,manner,tongue) slot_of(word) day_from(day,word)
levels: said_at(level,word)
hearing: hear_talk(talk,situation,tongue,values=()) level_at(talk,path,situation,tongue,values=())
hearing: meaning_at(talk,path,index,situation,tongue,values=()) settled_talk(talk,situation,tongue,values=())
hearing: heard_alike(one,other,situation,tongue,values=()) heard_parting(one,other,situation,tongue,values=())
hearing: situation_within(talk,path,situation,tongue,values=()) said_alone(talk,path)
roads: road_of(talk,path,index,tongue) road_end(road) read_road(road,situation,value=None)
roads: places_hanging(talk,path,index,tongue) outer_places(talk,slot,tongue) unknown_places(talk,number,index,tongue)
sevens: even_sevens(k) saw_sevens(w,m) lead_sevens(sevens,hop) led_by(hops) shape_of_sevens(sevens)
sevens: rests_alike(one,other) least_hops(sevens)
terms: check_term(term) day_plus(term,k) day_coming(term,w) day_last(term,w) weekday_of_term(term)
terms: root_of_term(term) value_of(term,situation,values=())
termlevels: outer_terms() inner_terms(level,report,number,tongue) terms_at(talk,path,tongue)
termlevels: terms_within(talk,path,tongue) term_said(level,word) words_alike(level,term)
forms: form_of(talk,tongue) bare_form(form) form_value(form,situation,values=()) check_form(form) terms_in(form)
forms: looks_to(form) is_settled(form)
alike: first_unlike(one,other,*,bare=False) says_same(one,other,tongue,*,other_tongue=None)
alike: bare_same(one,other,tongue,*,other_tongue=None)
alike: parted_fault(one,other,tongue,parted,*,other_tongue=None,bare=False)
sayback: talk_of_form(form,tongue) count_alike(talk,tongue) talks_alike(talk,tongue)
facts: check_mark(mark) check_fact(fact) is_true_at(fact,situation,values=()) first_untrue(facts,situation,values=())
facts: facts_along(facts,days)
clashes: find_clash(facts)
lots: lots_of(facts,terms)
days: rests_of(facts,mark) difference_of(facts,one,other) told_difference(facts,one,other,one_rest,other_rest)
fitting: a_fit(facts,terms=()) fit_between(facts,one,other,low,high)
reasons: clash_reason(facts) reason_fault(facts,reason)
sure: sure_same(facts,one,other) sure_form(facts,one,other) follows(facts,fact) needless_facts(facts)
tonguegroups: check_tongues(tongues) flipped_tongue(tongue,shift) forms_by(talk,tongues)
tonguegroups: shifts_of_word(talk,path,index) shifts_that_matter(talk)
safety: is_safe(talk,tongues) unsafe_place(talk,tongues)
menus: menu_of(talk)
crossing: safe_words(talk,meant,path,index,tongues,menu) put_over(talk,meant,tongues,menu,*,free=False)
crossing: words_to_change(talk,meant,tongues)
tellers: fitting_tongues(samples,tongues) untold_pair(talks,tongues) least_tellers(talks,tongues)
tellers: telling_situation(talks)
rightwords: is_right(terms,term,facts,word) right_words(terms,term,facts,menu) first_right(terms,term,facts,menu)
rightwords: why_wrong(terms,term,facts,word) against_menu(terms,term,facts,menu)
rightwords: against_fault(terms,term,facts,menu,fits)
rewording: manners_of(talk) choice_rows(talk,tongue,facts,menu,*,into=None,manners=None)
rewording: count_rewordings(talk,tongue,facts,menu,*,into=None,manners=None)
rewording: all_rewordings(talk,tongue,facts,menu,*,into=None,manners=None)
rewording: reworded(talk,tongue,facts,menu,*,into=None,manners=None)
rewording: unsayable(talk,tongue,facts,menu,*,into=None,manners=None)
rewording: possible_manners(talk,tongue,facts,menu,*,into=None) normal_talk(talk,tongue,facts,menu)
rewording: rewording_fault(old,new,tongue,facts,*,into=None)
retelling: retold(talk,path,tongue,facts,menu) retold_all(talk,manner,tongue,facts,menu)
retelling: in_tongue(talk,tongue,other,facts,menu)
retelling: handed_talk(talk,who,day,place,tongue,facts,menu,*,manner='indirect')
scribes: new_situation(situation,step) rule_used(book,word,situation,step) written_word(book,word,situation,step)
scribes: word_chain(book,word,situation,steps) handed_on(talk,situation,book,steps)
scribes: first_wrong(talk,situation,book,steps)
chains: always_right(book,word) closed_fault(book,word,rows) rules_reached(book,word) talk_errs(book,talk)
chains: settled_after(book,word)
samebooks: same_books(one,other,word)
bookmends: least_strikes(book,words) strike_fault(book,words,numbers)
firstwords: first_words(talk,report_path,path,index,tongue) count_first_talks(talk,report_path,tongue)
firstwords: first_talk_at(talk,report_path,tongue,number) number_of_first(talk,report_path,tongue,first)
firstwords: first_talks(talk,report_path,tongue)
origins: days_leading_to(sevens,term) origins_of(talk,path,first,tongue) is_origin(talk,path,first,tongue,origin)
joined: one_report(talk,path,tongue) joined_values(talk,path,tongue,values=())
passing: tellings_of(talk,path,situation,tongue,values=()) first_stranger(talk,tongue) first_late(talk,tongue)
passing: is_passed_on(talk,tongue)
found: reading_fits(found,reading) a_reading(found) match_word(found,path,index,meaning)
found: match_saying(found,path,deed,meanings)
foundrange: who_can(found,path,index,names) days_can(found,path,index) sure_meaning(found,path,index)
foundrange: is_open_word(found,path,index) settled_words(found)
clues: clue_answer(clue,reading) unsettled_by(found,path,index,clues) least_clues(found,path,index,clues)
promises: is_promise(talk,path,reading) do_clash(talk,path,other,reading) promise_case(found,path)
promises: clash_case(found,path,other) promise_cases(found)
changes: apply_changes(found,changes)
wishes: find_miss(found,wishes) miss_fault(found,wishes,miss)
mends: find_mends(found,wishes,pool) mends_fault(found,wishes,pool,mends) find_spoilers(found,wishes,pool)
"""
CLASSES = """
situations: Tongue(person,you,today,here) __eq__
situations: Situation(teller,hearer,day,place) moved(days) exchanged(one,other) __eq__
talks: Plain(deed,words) __eq__
talks: Report(who,whom,day,place,manner,rows) __eq__
talks: Talk(rows) __len__ __iter__ __eq__
alike: Parted(path,index,situation,value_rows) __eq__
facts: Facts(rows) with_fact(fact) without_fact(number) __len__ __iter__ __eq__
reasons: Reason(what,row) __eq__
sure: Unsure(path,index,situation,value_rows) __eq__
safety: Unsafe(one,other,path,index) __eq__
menus: Menu(names=(),places=(),dates=()) words_for(kind) position_of(word) __len__ __iter__ __eq__
rewording: Differs(path,index,situation,value_rows) __eq__
scribes: Step(delay,hearer,place) __eq__
scribes: Book(days,persons,places) plain() without(numbers) __len__ __iter__ __eq__
chains: Closed(rows) __eq__
chains: WrongChain(situation,steps) __eq__
chains: TalkErr(path,index,chain) __eq__
samebooks: PartingChain(situation,steps) __eq__
origins: Origins(tellers,hearers,days,places) __eq__
found: FoundLetter(talk,tongues,facts) __eq__
found: Reading(tongue,situation,value_rows) __eq__
found: Sure() __eq__
found: Never() __eq__
found: Both(yes,no) __eq__
foundrange: CanBe(names,stranger) __eq__
clues: Unsettled(one,other) __eq__
promisebook: Promise(number,name,whom,deed,date,place,said_on) __eq__
promisebook: Hearsay(number,tellers,name,whom,deed,date,place,said_on) __eq__
promisebook: PromiseBook(tongue) promises hearsay binding hear(talk,situation,values=()) take_back(number) clashing()
promisebook: PromiseBook(tongue) do_deed(name,deed,date,*,place=None) fate_of(number,date) borne_out() __len__ __iter__
wishes: Miss(wish,readings) __eq__
mends: Mends(least,misses) needed __eq__
mends: Spoiler(choice,added,why) __eq__
bench: Bench(found) put(change) take_back(number) trial() tried(call) __len__ __iter__
"""
GENERATORS = [
    "rows_of", "words_of", "places_hanging", "outer_places", "unknown_places", "terms_in", "talks_alike",
    "words_to_change", "all_rewordings", "possible_manners", "word_chain", "first_talks",
    "settled_words", "promise_cases",
]


def told_rows(text):
    """Return the couples (module, entry) of a table."""
    rows = []
    for line in text.strip().split("\n"):
        module, rest = line.split(": ")
        rows.extend((module, entry) for entry in rest.split())
    return rows


def signature_text(thing):
    """Return the parameters of a function or a class as the tables write them."""
    return str(inspect.signature(thing)).replace(" ", "")


def definitions(module):
    """Return the functions and classes that a file itself defines, by their names."""
    tree = ast.parse((PACKAGE / f"{module}.py").read_text())
    return {node.name: node for node in tree.body if isinstance(node, (ast.FunctionDef, ast.ClassDef))}


class InterfaceTest(unittest.TestCase):
    def test_functions(self):
        for module, entry in told_rows(FUNCTIONS):
            name = entry.split("(")[0]
            function = getattr(importlib.import_module(f"whosetomorrow.{module}"), name)
            self.assertIn(name, definitions(module))
            self.assertEqual(name + signature_text(function), entry)
            self.assertEqual(inspect.isgeneratorfunction(function), name in GENERATORS, name)

    def test_classes_and_their_methods(self):
        for line in CLASSES.strip().split("\n"):
            (module, head), *methods = told_rows(line)
            name = head.split("(")[0]
            made = getattr(importlib.import_module(f"whosetomorrow.{module}"), name)
            self.assertEqual(name + signature_text(made), head)
            own = {node.name: node for node in definitions(module)[name].body if isinstance(node, ast.FunctionDef)}
            for _, method in methods:
                self.assertIn(method.split("(")[0], own, name)
                if "(" in method:
                    found = inspect.getattr_static(made, method.split("(")[0])
                    found = found.__func__ if isinstance(found, classmethod) else found
                    first = "cls" if own[method.split("(")[0]].decorator_list else "self"
                    told = method.split("(", 1)[1]
                    self.assertEqual(signature_text(found), f"({first}" + (")" if told == ")" else "," + told))

    def test_rows_stand_under_saying(self):
        talks = importlib.import_module("whosetomorrow.talks")
        self.assertEqual(talks.Plain.__bases__, (talks.Saying,))
        self.assertEqual(talks.Report.__bases__, (talks.Saying,))
        self.assertEqual(talks.Saying.__bases__, (object,))

    def test_the_constant(self):
        levels = importlib.import_module("whosetomorrow.levels")
        self.assertEqual(len(levels.SLOTS), 8)


if __name__ == "__main__":
    unittest.main()

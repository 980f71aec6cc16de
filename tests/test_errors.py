"""[0.5]: all errors, where they stand and what they bear."""

import inspect
import unittest

from whosetomorrow import errors
from whosetomorrow.errors import TalkError

TOLD = """BadWord() BadSaying(what) BadTalk(path,what) NoPath(index) BadTongue() BadSituation(what) BadValues(index)
BadText(position,what) MeansNothing(word) NotOwn() BadRoad(index) BadSlot() BadSevens() BadHop(index) BadTerm()
BadForm(path) Unsaid(path,index) BadFact(index) NoFact(number) NoFit(numbers) BadTongues(index) BadShift()
NoSafeWord(path,index) BadSample(index) BadTalks(index) BadMenu(index,what) BadKind(kind) NotInMenu(word)
BadManners(index) NoWord(path,index) BadStep(what) BadBook(index,what) HasReport(path) NotWithin() NoFirst(number)
BadOrigin(index) NotAlone() BadMeaning(index) NotNamed() NotADay() BadNames(index) BadClue(index) BadDeed(what)
NoPromise(number) BadChange(index,what) NoLetter(what) BadWish(index,what) NoChange(number)"""


def told_errors():
    """Return the couples (name, names of the attributes) of all errors that the document lists."""
    rows = []
    for text in TOLD.split():
        name, rest = text[:-1].split("(")
        rows.append((name, rest.split(",") if rest else []))
    return rows


class ErrorsTest(unittest.TestCase):
    def test_the_first_of_them_stands_under_value_error(self):
        self.assertEqual(TalkError.__bases__, (ValueError,))

    def test_all_errors_are_there_and_stand_directly_under_talk_error(self):
        for name, _ in told_errors():
            self.assertEqual(getattr(errors, name).__bases__, (TalkError,), name)

    def test_there_are_no_other_errors(self):
        found = [name for name, thing in vars(errors).items() if inspect.isclass(thing)]
        self.assertEqual(found, ["TalkError"] + [name for name, _ in told_errors()])

    def test_attributes_in_their_names_and_order(self):
        for name, attributes in told_errors():
            given = [(1, 2), "what"][:len(attributes)]
            error = getattr(errors, name)(*given)
            self.assertEqual(list(vars(error).items()), list(zip(attributes, given)), name)
            named = getattr(errors, name)(**dict(zip(attributes, given)))
            self.assertEqual(vars(named), dict(zip(attributes, given)), name)

    def test_no_other_number_of_arguments(self):
        for name, attributes in told_errors():
            with self.assertRaises(TypeError):
                getattr(errors, name)(*range(len(attributes) + 1))

    def test_messages_are_texts_whatever_is_told(self):
        class Silent:
            def __repr__(self):
                raise RuntimeError

        for name in ("NoFact", "BadKind", "NoFirst", "NoPromise", "NoChange"):
            self.assertTrue(str(getattr(errors, name)(Silent())))


if __name__ == "__main__":
    unittest.main()

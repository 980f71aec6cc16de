"""All errors of the program. Each stands directly under TalkError.

The messages never show things that a caller passed in unchecked, as such a
thing may be of any kind, or a number too long to be written.
"""


class TalkError(ValueError):
    """What all errors of the program stand under."""


class BadWord(TalkError):
    def __init__(self):
        super().__init__("this is no word that may stand here")


class BadSaying(TalkError):
    def __init__(self, what):
        super().__init__(f"a saying is refused: {what}")
        self.what = what


class BadTalk(TalkError):
    def __init__(self, path, what):
        super().__init__(f"a talk is refused at {path}: {what}")
        self.path = path
        self.what = what


class NoPath(TalkError):
    def __init__(self, index):
        super().__init__(f"the talk has no such place: entry {index}")
        self.index = index


class BadTongue(TalkError):
    def __init__(self):
        super().__init__("a tongue takes four truths")


class BadSituation(TalkError):
    def __init__(self, what):
        super().__init__(f"a situation is refused: {what}")
        self.what = what


class BadValues(TalkError):
    def __init__(self, index):
        super().__init__(f"an unknown part has no right value: report {index}")
        self.index = index


class BadText(TalkError):
    def __init__(self, position, what):
        super().__init__(f"a text is refused at {position}: {what}")
        self.position = position
        self.what = what


class MeansNothing(TalkError):
    def __init__(self, word):
        super().__init__(f"the word {word} means nothing at this level")
        self.word = word


class NotOwn(TalkError):
    def __init__(self):
        super().__init__("the report is not in own words")


class BadRoad(TalkError):
    def __init__(self, index):
        super().__init__(f"a road is refused at entry {index}")
        self.index = index


class BadSlot(TalkError):
    def __init__(self):
        super().__init__("there is no such slot")


class BadSevens(TalkError):
    def __init__(self):
        super().__init__("these are no sevens")


class BadHop(TalkError):
    def __init__(self, index):
        super().__init__(f"this is no hop: entry {index}")
        self.index = index


class BadTerm(TalkError):
    def __init__(self):
        super().__init__("this is no term that may stand here")


class BadForm(TalkError):
    def __init__(self, path):
        super().__init__(f"a form goes wrong at {path}")
        self.path = path


class Unsaid(TalkError):
    def __init__(self, path, index):
        super().__init__(f"no word says what stands at {path}, {index}")
        self.path = path
        self.index = index


class BadFact(TalkError):
    def __init__(self, index):
        super().__init__(f"this is no fact: entry {index}")
        self.index = index


class NoFact(TalkError):
    def __init__(self, number):
        super().__init__("there is no fact of this number")
        self.number = number


class NoFit(TalkError):
    def __init__(self, numbers):
        super().__init__(f"the facts clash: {numbers}")
        self.numbers = numbers


class BadTongues(TalkError):
    def __init__(self, index):
        super().__init__(f"this is no tongue: entry {index}")
        self.index = index


class BadShift(TalkError):
    def __init__(self):
        super().__init__("there is no such shift")


class NoSafeWord(TalkError):
    def __init__(self, path, index):
        super().__init__(f"the menu has no safe word for {path}, {index}")
        self.path = path
        self.index = index


class BadSample(TalkError):
    def __init__(self, index):
        super().__init__(f"this is no sample: entry {index}")
        self.index = index


class BadTalks(TalkError):
    def __init__(self, index):
        super().__init__(f"this is no talk: entry {index}")
        self.index = index


class BadMenu(TalkError):
    def __init__(self, index, what):
        super().__init__(f"a menu is refused at entry {index}: {what}")
        self.index = index
        self.what = what


class BadKind(TalkError):
    def __init__(self, kind):
        super().__init__("there is no such kind of word")
        self.kind = kind


class NotInMenu(TalkError):
    def __init__(self, word):
        super().__init__(f"the word {word} is not in the menu")
        self.word = word


class BadManners(TalkError):
    def __init__(self, index):
        super().__init__(f"this is no manner: entry {index}")
        self.index = index


class NoWord(TalkError):
    def __init__(self, path, index):
        super().__init__(f"there is no word for {path}, {index}")
        self.path = path
        self.index = index


class BadStep(TalkError):
    def __init__(self, what):
        super().__init__(f"a step is refused: {what}")
        self.what = what


class BadBook(TalkError):
    def __init__(self, index, what):
        super().__init__(f"a book is refused at {index}: {what}")
        self.index = index
        self.what = what


class HasReport(TalkError):
    def __init__(self, path):
        super().__init__(f"there is a report at {path}")
        self.path = path


class NotWithin(TalkError):
    def __init__(self):
        super().__init__("the place is not within the report")


class NoFirst(TalkError):
    def __init__(self, number):
        super().__init__("there is no first talk of this number")
        self.number = number


class BadOrigin(TalkError):
    def __init__(self, index):
        super().__init__(f"an origin is refused at entry {index}")
        self.index = index


class NotAlone(TalkError):
    def __init__(self):
        super().__init__("the report does not hold one report alone")


class BadMeaning(TalkError):
    def __init__(self, index):
        super().__init__(f"this is no meaning: entry {index}")
        self.index = index


class NotNamed(TalkError):
    def __init__(self):
        super().__init__("a day has no name")


class NotADay(TalkError):
    def __init__(self):
        super().__init__("the word is no day word")


class BadNames(TalkError):
    def __init__(self, index):
        super().__init__(f"this is no new name: entry {index}")
        self.index = index


class BadClue(TalkError):
    def __init__(self, index):
        super().__init__(f"this is no clue: entry {index}")
        self.index = index


class BadDeed(TalkError):
    def __init__(self, what):
        super().__init__(f"a deed is refused: {what}")
        self.what = what


class NoPromise(TalkError):
    def __init__(self, number):
        super().__init__("there is no such promise")
        self.number = number


class BadChange(TalkError):
    def __init__(self, index, what):
        super().__init__(f"a change is refused at entry {index}: {what}")
        self.index = index
        self.what = what


class NoLetter(TalkError):
    def __init__(self, what):
        super().__init__(f"the changes leave no letter: {what}")
        self.what = what


class BadWish(TalkError):
    def __init__(self, index, what):
        super().__init__(f"a wish is refused at entry {index}: {what}")
        self.index = index
        self.what = what


class NoChange(TalkError):
    def __init__(self, number):
        super().__init__("there is no such standing change")
        self.number = number

"""A desk: rows that are told, and the texts that answer them."""

from fadeleaf.books import Book, deed_kinds
from fadeleaf.booktexts import book_text
from fadeleaf.errors import FadeError, Halted, NoAmount, NoBook, NoInk, NoName, NoRow, Worn
from fadeleaf.films import film, picture_ahead
from fadeleaf.leaftexts import leaf_text
from fadeleaf.leaves import leaf_parting
from fadeleaf.palettes import MOST_INKS, Palette, is_name
from fadeleaf.texts import is_number


def _make(book, name, many, wear):
    """Answer a row that makes a leaf."""
    book.make(name, many, wear=wear)
    return "ok"


def _drop(book, name):
    """Answer a row that drops a leaf."""
    book.drop(name)
    return "ok"


def _wait(book, ticks):
    """Answer a row that waits."""
    book.wait(ticks)
    return "ok"


def _mark(book, name):
    """Answer a row that marks."""
    book.mark(name)
    return "ok"


def _back(book, name):
    """Answer a row that goes back."""
    book.back(name)
    return "ok"


def _do(book, name, *deed):
    """Answer a row with a book's deed."""
    book.do(name, deed)
    return "ok"


def _seen(book, name, at):
    """Answer what is seen at a place."""
    return _words(book.leaf(name).place(at).seen())


def _wear(book, name, at):
    """Answer the wear of a place."""
    return str(book.leaf(name).place(at).wear())


def _runs(book, name):
    """Answer how many runs a leaf has."""
    return str(len(book.leaf(name)))


def _picture(book, name, ticks):
    """Answer the picture of a leaf ahead."""
    return _listed(picture_ahead(book.leaf(name), ticks))


def _film(book, name, at):
    """Answer the film of a place."""
    return _listed(film(book.leaf(name).place(at)))


def _part(book, name, other):
    """Answer where two leaves part, and what parts them."""
    told = leaf_parting(book.leaf(name), book.leaf(other))
    if told is None:
        return "never"
    at, deeds = told
    if not deeds:
        return f"{at}:"
    listed = ", ".join([_words(deed) for deed in deeds])
    return f"{at}: {listed}"


def _show(book, name):
    """Answer the text of a leaf."""
    return leaf_text(book.leaf(name))


def _text(book):
    """Answer the text of the book."""
    return book_text(book)


def _listed(pairs):
    """Tell tuples of a number and what is seen as a text."""
    return ", ".join([f"{number} {_words(what)}" for number, what in pairs])


def _words(things):
    """Tell a tuple as words; nothing of None."""
    return "nothing" if things is None else " ".join([str(thing) for thing in things])


# Of the kinds of words, those of books' deeds too, these are numbers; all others but word are names.
_NUMBERS = ("number", "place", "amount")
_KINDS = {
    "make": ("word", "name", "number", "number"),
    "drop": ("word", "name"),
    "wait": ("word", "number"),
    "mark": ("word", "name"),
    "back": ("word", "name"),
    "seen": ("word", "name", "number"),
    "wear": ("word", "name", "number"),
    "runs": ("word", "name"),
    "picture": ("word", "name", "number"),
    "film": ("word", "name", "number"),
    "part": ("word", "name", "name"),
    "show": ("word", "name"),
    "text": ("word",),
}
_ANSWERS = {
    "make": _make,
    "drop": _drop,
    "wait": _wait,
    "mark": _mark,
    "back": _back,
    "do": _do,
    "seen": _seen,
    "wear": _wear,
    "runs": _runs,
    "picture": _picture,
    "film": _film,
    "part": _part,
    "show": _show,
    "text": _text,
}


class Desk:
    """A book, none at first, and rows that are answered of it."""

    def __init__(self):
        self._book = None
        self._answered = 0
        self._journal = []
        self._busy = 0

    def say(self, row):
        """Tell the answer to a row."""
        word, *items = _read(row)
        if word == "book":
            self._book = Book(Palette(list(zip(items[::2], items[1::2]))))
            answer = "ok"
        else:
            self._refuse_no_book()
            action = _ANSWERS[word]
            answer = action(self._book, *items)
        self._answered += 1
        return answer

    def say_all(self, rows):
        """Tell the answers to rows; Halted at the first that is refused."""
        told = []
        self._journal.append(("begin", self._answered))
        self._busy += 1
        try:
            for row in rows:
                told.append(self.say(row))
        except (FadeError, NoInk, NoName, NoAmount, Worn):
            raise Halted(len(told), told) from None
        finally:
            self._busy -= 1
            self._journal.append(("end", self._answered))
        return told

    def journal(self):
        """Tell where each telling of several rows began and ended."""
        return list(self._journal)

    def busy(self):
        """Tell how many tellings of several rows are going on."""
        return self._busy

    def book(self):
        """Tell a book like the desk's own."""
        self._refuse_no_book()
        return self._book.copied()

    def _refuse_no_book(self):
        """Refuse where there is no book."""
        if self._book is None:
            raise NoBook("there is no book")


def _read(row):
    """Tell the words of a row, the numbers among them as numbers; NoRow refuses anything that is no row."""
    if not isinstance(row, str):
        raise NoRow("a row is a text")
    words = row.split(" ")
    kinds = _kinds_of(words)
    if kinds is None or len(words) != len(kinds):
        raise NoRow("no row has these words")
    if not all([_is_kind(word, kind) for word, kind in zip(words, kinds)]):
        raise NoRow("no row has these words")
    return [int(word) if kind in _NUMBERS else word for word, kind in zip(words, kinds)]


def _kinds_of(words):
    """Tell of which kinds the words of a row are to be, None where no row begins so."""
    if words[0] == "book":
        pairs = len(words) // 2
        return ("word",) + ("name", "number") * pairs if 1 <= pairs <= MOST_INKS else None
    if words[0] != "do":
        return _KINDS.get(words[0])
    kinds = deed_kinds(words[2]) if len(words) > 2 else None
    return None if kinds is None else ("word", "name", "word") + kinds


def _is_kind(word, kind):
    """Tell whether a word is of a kind; one of the kind word is known already by itself."""
    if kind in _NUMBERS:
        return is_number(word)
    return kind == "word" or is_name(word)

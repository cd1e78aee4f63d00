"""Books written as texts, and read back."""

from fadeleaf.books import Book
from fadeleaf.leaftexts import LeafReader, leaf_rows
from fadeleaf.palettes import MOST_INKS, Palette, is_name
from fadeleaf.texts import is_number, read_rows, text_of


def book_text(book):
    """Tell the text of a book."""
    rows = [f"ink {ink} {fade}" for ink, fade in book.palette().inks()]
    rows.append(f"ticks {book.ticks()}")
    for name in book.names():
        rows.append(f"leaf {name}")
        rows.extend(["  " + row for row in leaf_rows(book.leaf(name))])
    return text_of(rows)


def read_book(text):
    """Tell the book of which this is the text."""
    reader = BookReader()
    read_rows(reader, text)
    return reader.book()


class BookReader:
    """Takes the rows of a book's text, one behind another, as long as each can stand where it does."""

    def __init__(self):
        self._fades = {}
        # There is a palette, and there are ticks, from the row of the ticks on.
        self._palette = None
        self._ticks = 0
        self._names = []
        self._readers = []

    def takes(self, row):
        """Tell whether a row can stand behind those taken, and take it then."""
        if row.startswith("  "):
            return len(self._readers) > 0 and self._readers[-1].takes(row[2:])
        word, *words = row.split(" ")
        if word == "ink":
            return self._takes_ink(words)
        if word == "ticks":
            return self._takes_ticks(words)
        return word == "leaf" and self._takes_leaf(words)

    def may_end(self):
        """Tell whether the rows that were taken are the text of a book."""
        if self._palette is None:
            return False
        return len(self._readers) == 0 or self._readers[-1].may_end()

    def book(self):
        """Tell the book."""
        book = Book(self._palette)
        if self._ticks > 0:
            book.wait(self._ticks)
        for name, reader in zip(self._names, self._readers):
            book.put(name, reader.leaf())
        return book

    def _takes_ink(self, words):
        """Tell whether the words of a row are a name and a fade that can stand here, and take them then."""
        if self._palette is not None or len(self._fades) == MOST_INKS or len(words) != 2:
            return False
        name, fade = words
        if not is_name(name) or name in self._fades or not is_number(fade):
            return False
        self._fades[name] = int(fade)
        return True

    def _takes_ticks(self, words):
        """Tell whether the words of a row are the ticks and can stand here, and take them then."""
        if self._palette is not None or len(self._fades) == 0 or len(words) != 1 or not is_number(words[0]):
            return False
        self._palette = Palette(list(self._fades.items()))
        self._ticks = int(words[0])
        return True

    def _takes_leaf(self, words):
        """Tell whether the words of a row are the name of a leaf that can stand here, and take it then."""
        if not self.may_end() or len(words) != 1 or not is_name(words[0]):
            return False
        if self._names and words[0] <= self._names[-1]:
            return False
        self._names.append(words[0])
        self._readers.append(LeafReader(self._palette))
        return True

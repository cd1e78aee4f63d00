"""What tests of leaves, books and desks have in common: leaves made and told, drawn deeds, and refusals."""

import unittest

from fadeleaf import errors
from fadeleaf.kept import Kept
from fadeleaf.leaves import Leaf
from fadeleaf.palettes import Palette
from leafmodel import Halt, LeafModel
from things import INKS

MOST = 10 ** 18
PALETTE = Palette(INKS)


def made(many, *deeds, wear=3, inks=INKS):
    """A leaf behind deeds, each a tuple of a method's name and its arguments."""
    leaf = Leaf(Palette(inks), many, wear=wear)
    for word, *items in deeds:
        getattr(leaf, word)(*items)
    return leaf


def striped(*wears, inks=INKS):
    """A leaf of places of these wears."""
    leaf = Leaf(Palette(inks), 0)
    for wear in wears:
        leaf.insert(leaf.many(), Leaf(Palette(inks), 1, wear=wear))
    return leaf


def told(leaf):
    """All that a leaf tells, as one value."""
    return (leaf.palette().inks(), leaf.many(), leaf.runs(), leaf.picture(), len(leaf))


def place_told(place):
    """All that a kept place tells, as one value."""
    return (place.palette().inks(), place.wear(), place.rows(), place.seen())


def of_model(model):
    """What a leaf has to tell that is of a model."""
    runs = model.runs()
    return (model.inks, len(model.places), runs, model.picture(), len(runs))


def leaf_of(model):
    """A leaf behind nothing but lays, that is of a model."""
    leaf = striped(*[place.wear for place in model.places], inks=model.inks)
    for at, place in enumerate(model.places):
        for layer in place.layers:
            if layer.there:
                leaf.lay(at, at + 1, layer.ink, layer.tag, layer.strength)
    return leaf


def drawn_range(draws, many):
    """A begin and an end of so many places, now and then wrong ones."""
    begin, end = draws.below(many + 1), draws.below(many + 1)
    if draws.below(12) > 0:
        begin, end = min(begin, end), max(begin, end)
    return begin, end + (draws.below(40) == 0)


def drawn_pair(draws, inks, most=12):
    """A model of a leaf and the leaf, of a few places of drawn wears, behind drawn deeds."""
    model = LeafModel(inks, 0)
    for _ in range(draws.below(4)):
        model.insert(draws.below(len(model.places) + 1), LeafModel(inks, 1 + draws.below(4), draws.below(7)))
    leaf = leaf_of(model)
    for _ in range(draws.below(most + 1)):
        both_do(model, leaf, *drawn_range(draws, len(model.places)), draws.deed(inks))
    return model, leaf


def both_do(model, leaf, begin, end, deed):
    """A deed done to a model and a leaf; tells whether it was done. Both refuse it alike, and are not changed then."""
    word, *items = deed
    if word == "wait":
        return both(lambda: model.wait(*items), lambda: leaf.wait(*items))
    return both(lambda: model.do(begin, end, deed), lambda: getattr(leaf, word)(begin, end, *items))


def both(on_model, on_program):
    """Two calls done, one of a model; tells whether they were. Both are refused alike, or none."""
    try:
        on_model()
    except Halt as halt:
        caught = caught_of(getattr(errors, halt.word), on_program)
        fields = {name: getattr(caught, name) for name in halt.fields}
        if fields != halt.fields:
            raise AssertionError((halt.word, halt.fields, fields)) from None
        return False
    on_program()
    return True


def caught_of(error, call):
    """The error with which a call is refused, of just this class."""
    try:
        call()
    except error as caught:
        if type(caught) is error:
            return caught
        raise AssertionError("refused with " + type(caught).__name__) from caught
    raise AssertionError("not refused with " + error.__name__)


class Refusing(unittest.TestCase):
    """Checks of what is refused: with which class, of what, and that nothing was changed."""

    def refused(self, error, call, *things, who=(), at=()):
        """A call is refused with an error, of a field where one is told, and things tell what they told."""
        before = [self.all_of(thing) for thing in things]
        caught = caught_of(getattr(errors, error), call)
        if who != ():
            self.assertIs(caught.who, who[0])
        if at != ():
            self.assertEqual(caught.at, at[0])
        self.assertEqual([self.all_of(thing) for thing in things], before)

    def all_of(self, thing):
        """All that a thing tells."""
        if isinstance(thing, Leaf):
            return told(thing)
        return place_told(thing) if isinstance(thing, Kept) else list(thing)


def spoilt(draws, text):
    """A text spoilt by one stroke: a sign or a row put in, taken out, put elsewhere or changed; or cut off."""
    at, lot = draws.below(len(text) + 1), draws.below(10)
    rows = text.split("\n")
    row = draws.below(len(rows))
    if lot == 0:
        return text[:at] + draws.pick(" \n0123456789abrunskyz~") + text[at:]
    if lot == 1:
        return text[:at] + text[at + 1:]
    if lot == 2:
        return text[:at] + draws.pick(" \n0123456789abz") + text[at + 1:]
    if lot == 3:
        return text[:at]
    if lot == 4:
        return "".join(one + "\n" for one in rows[:row])
    if lot == 5:
        return "\n".join(rows[:row] + rows[row + 1:])
    if lot == 6:
        return "\n".join(rows[:row] + [draws.pick(rows)] + rows[row:])
    if lot == 7:
        return "\n".join(rows[:row] + rows[row + 1:row + 2] + rows[row:row + 1] + rows[row + 2:])
    return "\n".join(rows[:row] + [spoilt_row(draws, rows[row])] + rows[row + 1:])


def spoilt_row(draws, row):
    """A row of which one word is changed, left out or put in twice, or two words change their places."""
    words = row.split(" ")
    at, lot = draws.below(len(words)), draws.below(5)
    word = words[at]
    if lot == 0:
        other = draws.pick(["a", "b", "sun", "sky", "red"])
        word = str(int(word) + 1 - 2 * draws.below(2)) if word.isdigit() else other
        return " ".join(words[:at] + [word] + words[at + 1:])
    if lot == 1:
        return " ".join(words[:at] + words[at + 1:])
    if lot == 2:
        return " ".join(words[:at] + [word] + words[at:])
    if lot == 3:
        return " ".join(words[:at] + words[at + 1:at + 2] + [word] + words[at + 2:])
    return " ".join(words[:at] + words[at + 2:at + 4] + words[at:at + 2] + words[at + 4:])

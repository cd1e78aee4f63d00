"""Things of many kinds, for what the document answers "of anything", and inks and a number for many tests."""

BIG = 10 ** 59
INKS = [("sun", 2), ("sky", 0)]
# Lists of inks of which the palettes are each unlike that of INKS: in a fade, a name, the order, and how many.
UNLIKE = [
    [("sun", 3), ("sky", 0)], [("sun", 2), ("sea", 0)], [("sky", 0), ("sun", 2)], [("sun", 2)], INKS + [("sea", 0)],
]


class Agreeing:
    """Calls itself equal to whatever it is compared with."""

    def __eq__(self, other):
        return True

    def __hash__(self):
        return hash("sun")


class Stubborn:
    """Lets itself neither be compared, counted, hashed nor tested."""

    def __eq__(self, other):
        raise AssertionError("compared")

    def __hash__(self):
        raise AssertionError("hashed")

    def __len__(self):
        raise AssertionError("counted")

    def __bool__(self):
        raise AssertionError("tested")


def nested(depth):
    """A list within lists, depth of them."""
    thing = []
    for _ in range(depth):
        thing = [thing]
    return thing


def endless():
    """A list that holds itself."""
    thing = []
    thing.append(thing)
    return thing


def no_names():
    """Things that are no names."""
    return others() + [
        0, 1, -1, 10 ** 60, True, False, "", "abcdefghi", "Sun", "SUN", "sun1", "1", "su n", " sun", "sun ", "sun\n",
        "\n", "`", "{", "@", "[", "s-n", "a" * 1000,
    ]


def no_amounts():
    """Things that are no amounts."""
    return others() + [0, -1, -(10 ** 60), True, False, "", "1", "sun", b"1"]


def others():
    """Things that are neither names nor whole numbers, nor tuples or lists of use."""
    return [
        None, b"sun", b"", [], (), {}, set(), frozenset(), ["sun"], ("sun",), {"sun": 1}, {"sun"}, [1], (1,), object(),
        len, int, str, Agreeing(), Stubborn(), nested(40), endless(), range(3), ValueError("sun"), NotImplemented, ...,
    ]


def no_wears():
    """Things that are no wears."""
    return others() + [-1, 7, -(10 ** 60), 10 ** 60, True, False, "", "3", "sun", b"3", (3,), [3], {3: 3}]


def no_deeds():
    """Things that are no deeds of a palette of the inks sun and sky."""
    told = [
        ("lay", "sun", "red", 1), ("wait", 1), ("wash", "sun", 1), ("warm", "sky", 1), ("scrape",), ("rub", 1),
    ]
    wrong = [list(deed) for deed in told] + [deed + (1,) for deed in told] + [deed[:-1] for deed in told]
    wrong += [("wait", amount) for amount in no_amounts()] + [("rub", amount) for amount in no_amounts()]
    wrong += [("wash", "sun", amount) for amount in no_amounts()] + [("warm", ink, 1) for ink in no_names()]
    wrong += [("lay", "sun", tag, 1) for tag in no_names()] + [("lay", "moon", "red", 1), ("lay", "sun", "red", 0)]
    wrong += [("wash", "moon", 1), ("", 1), ("Scrape",), (("scrape",),), (True,), (1,), (Agreeing(),), (Stubborn(),)]
    return wrong + others() + [True, False, 0, 1, "scrape", "", {"scrape": 1}, {"lay": "sun"}]


def no_numbers(most):
    """Things that are no whole numbers from 0 to most."""
    return others() + [-1, -(10 ** 60), most + 1, 10 ** 60, True, False, "", "0", "1", b"0", (0,), [0], {0: 0}]

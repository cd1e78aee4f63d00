"""Things of many kinds, for what the document answers "of anything"."""


class Agreeing:
    """Calls itself equal to whatever it is compared with."""

    def __eq__(self, other):
        return True

    def __hash__(self):
        return hash("sun")


class Stubborn:
    """Lets itself neither be compared, counted, hashed nor tested."""

    def __eq__(self, other):
        raise AssertionError("compared")

    def __hash__(self):
        raise AssertionError("hashed")

    def __len__(self):
        raise AssertionError("counted")

    def __bool__(self):
        raise AssertionError("tested")


def nested(depth):
    """A list within lists, depth of them."""
    thing = []
    for _ in range(depth):
        thing = [thing]
    return thing


def endless():
    """A list that holds itself."""
    thing = []
    thing.append(thing)
    return thing


def no_names():
    """Things that are no names."""
    return others() + [
        0, 1, -1, 10 ** 60, True, False, "", "abcdefghi", "Sun", "SUN", "sun1", "1", "su n", " sun", "sun ", "sun\n",
        "\n", "`", "{", "@", "[", "s-n", "a" * 1000,
    ]


def no_amounts():
    """Things that are no amounts."""
    return others() + [0, -1, -(10 ** 60), True, False, "", "1", "sun", b"1"]


def others():
    """Things that are neither names nor whole numbers, nor tuples or lists of use."""
    return [
        None, b"sun", b"", [], (), {}, set(), frozenset(), ["sun"], ("sun",), {"sun": 1}, {"sun"}, [1], (1,), object(),
        len, int, str, Agreeing(), Stubborn(), nested(40), endless(), range(3), ValueError("sun"), NotImplemented, ...,
    ]

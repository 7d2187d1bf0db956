"""The makers of the library, clients, and clients with makers around them."""

from namesapart.errors import InvalidLot, InvalidTree, InvalidWord
from namesapart.shapes import MOST_DEPTH, MOST_SIZE, all_names, depth_of, placed_parts, size_of
from namesapart.trees import need_bare

# The rows of each maker, told as the tuples that they are: nearly every call here and in what comes of clients needs
# some, and reading them from texts each time would take far longer than all else.
LIBRARY = {
    "calc": (
        ((("any", "a"), ("word", ("plus", ())), ("any", "b")), ("reckon", "+", ("fill", "a"), ("fill", "b"))),
        ((("any", "a"), ("word", ("by", ())), ("any", "b")), ("reckon", "*", ("fill", "a"), ("fill", "b"))),
        (
            (("any", "a"), ("word", ("plus", ())), ("any", "b"), ("word", ("by", ())), ("any", "c")),
            (
                "make", ("calc", ()),
                (
                    ("fill", "a"),
                    ("use", ("plus", ())),
                    ("make", ("calc", ()), (("fill", "b"), ("use", ("by", ())), ("fill", "c"))),
                ),
            ),
        ),
        ((("any", "a"),), ("fill", "a")),
    ),
    "case": (
        (
            (("any", "e"), ("word", ("is", ())), ("any", "k"), ("any", "b"), ("any", "c")),
            ("test", ("reckon", "-", ("fill", "e"), ("fill", "k")), ("fill", "c"), ("fill", "b")),
        ),
    ),
    "joint": (
        (
            (("name", "n"), ("any", "e"), ("name", "o"), ("any", "h"), ("any", "b")),
            (
                "apply",
                ("apply", ("given", ("fill", "n"), ("given", ("fill", "o"), ("fill", "b"))), ("fill", "e")),
                ("fill", "h"),
            ),
        ),
    ),
    "left": (
        (
            (("any", "p"),),
            ("apply", ("fill", "p"), ("given", ("u", ()), ("given", ("v", ()), ("use", ("u", ()))))),
        ),
    ),
    "lets": (
        ((("name", "n"), ("any", "e"), ("any", "b")), ("hold", ("fill", "n"), ("fill", "e"), ("fill", "b"))),
        (
            (("name", "n"), ("any", "e"), ("name", "o"), ("any", "h"), ("any", "b")),
            ("hold", ("fill", "n"), ("fill", "e"), ("hold", ("fill", "o"), ("fill", "h"), ("fill", "b"))),
        ),
    ),
    "nay": (
        ((("any", "a"),), ("test", ("fill", "a"), ("amount", 0), ("amount", 1))),
    ),
    "orelse": (
        (
            (("any", "a"), ("any", "b")),
            (
                "hold", ("t", ()), ("fill", "a"),
                ("test", ("use", ("t", ())), ("use", ("t", ())), ("fill", "b")),
            ),
        ),
    ),
    "pair": (
        (
            (("any", "a"), ("any", "b")),
            (
                "hold", ("u", ()), ("fill", "a"),
                (
                    "hold", ("v", ()), ("fill", "b"),
                    (
                        "given", ("s", ()),
                        ("apply", ("apply", ("use", ("s", ())), ("use", ("u", ()))), ("use", ("v", ()))),
                    ),
                ),
            ),
        ),
    ),
    "right": (
        (
            (("any", "p"),),
            ("apply", ("fill", "p"), ("given", ("u", ()), ("given", ("v", ()), ("use", ("v", ()))))),
        ),
    ),
    "sum": (
        (
            (("name", "n"), ("any", "e"), ("any", "b")),
            (
                "hold", ("f", ()),
                (
                    "given", ("g", ()),
                    (
                        "given", ("fill", "n"),
                        (
                            "test", ("fill", "n"),
                            (
                                "reckon", "+", ("fill", "b"),
                                (
                                    "apply",
                                    ("apply", ("use", ("g", ())), ("use", ("g", ()))),
                                    ("reckon", "-", ("fill", "n"), ("amount", 1)),
                                ),
                            ),
                            ("amount", 0),
                        ),
                    ),
                ),
                ("apply", ("apply", ("use", ("f", ())), ("use", ("f", ()))), ("fill", "e")),
            ),
        ),
    ),
    "times": (
        (
            (("any", "e"), ("any", "h"), ("any", "x")),
            (
                "hold", ("k", ()), ("fill", "h"),
                (
                    "hold", ("f", ()),
                    (
                        "given", ("g", ()),
                        (
                            "given", ("i", ()),
                            (
                                "given", ("y", ()),
                                (
                                    "test",
                                    ("use", ("i", ())),
                                    (
                                        "apply",
                                        (
                                            "apply",
                                            ("apply", ("use", ("g", ())), ("use", ("g", ()))),
                                            ("reckon", "-", ("use", ("i", ())), ("amount", 1)),
                                        ),
                                        ("apply", ("use", ("k", ())), ("use", ("y", ()))),
                                    ),
                                    ("use", ("y", ())),
                                ),
                            ),
                        ),
                    ),
                    (
                        "apply",
                        ("apply", ("apply", ("use", ("f", ())), ("use", ("f", ()))), ("fill", "e")),
                        ("fill", "x"),
                    ),
                ),
            ),
        ),
    ),
}

# How much a maker adds to the size of the tree that it stands around.
MAKER_SIZES = {
    "calc": 27,
    "case": 12,
    "joint": 13,
    "left": 7,
    "lets": 17,
    "nay": 6,
    "orelse": 9,
    "pair": 13,
    "right": 7,
    "sum": 24,
    "times": 31,
}


def is_library_word(value):
    """Whether a value is a word of the library."""
    return isinstance(value, str) and value in LIBRARY


def need_lot(value):
    """Raises an error if a value is no lot."""
    if not isinstance(value, tuple) or not all([is_library_word(word) for word in value]):
        raise InvalidLot("not a tuple of words of the library")
    if len(set(value)) != len(value):
        raise InvalidLot("a word twice")


def need_client(value):
    """Raises an error if a value is no client."""
    need_bare(value)
    if any([part[0] == "maker" for _, part in placed_parts(value, False)]):
        raise InvalidTree("a tree with a maker")


def need_library_word(value):
    """Raises an error if a value is no word of the library."""
    if not is_library_word(value):
        raise InvalidWord("not a word of the library")


def library_words():
    """The ascending list of the words of the library."""
    return sorted(LIBRARY)


def library_rows(word):
    """The rows of a maker of the library."""
    need_library_word(word)
    return LIBRARY[word]


def library_maker(word, body):
    """The maker of a word of the library with this body."""
    return ("maker", (word, ()), LIBRARY[word], body)


def brought_by(word):
    """The ascending list of the words of all names in the forms and patterns of a maker of the library."""
    need_library_word(word)
    maker = library_maker(word, ("amount", 0))
    names = all_names(("maker", ("fill", word), maker[2], maker[3]))
    return sorted({name[0] for name in names})


def rows_of_lot(lot):
    """The rows of the makers of a lot, by word."""
    return {word: LIBRARY[word] for word in lot}


def fits_in_lot(lot, client):
    """Whether a client with the makers of a lot around it is a tree.

    Only the bounds are looked at, as nothing else can be wrong; no row is so deep that it could be beyond them.
    """
    size = size_of(client) + sum([MAKER_SIZES[word] for word in lot])
    return size <= MOST_SIZE and depth_of(client) + len(lot) <= MOST_DEPTH


def with_library(lot, client):
    """The client with the makers of a lot around it."""
    need_lot(lot)
    need_client(client)
    if not fits_in_lot(lot, client):
        raise InvalidTree("too great or too deep with the makers around it")
    tree = client
    for word in lot[::-1]:
        tree = library_maker(word, tree)
    return tree

"""The makers of the library, clients, and clients with makers around them."""

from namesapart.errors import InvalidLot, InvalidTree, InvalidWord
from namesapart.shapes import all_names, placed_parts
from namesapart.texts import read_tree
from namesapart.trees import is_tree, need_bare

# The rows of each maker, as the text of a maker has them.
LIBRARY = {
    "calc": (
        "(row (any:a word:plus any:b) (+ ?a ?b)) (row (any:a word:by any:b) (* ?a ?b)) "
        "(row (any:a word:plus any:b word:by any:c) (make calc ?a plus (make calc ?b by ?c))) (row (any:a) ?a)"
    ),
    "case": "(row (any:e word:is any:k any:b any:c) (test (- ?e ?k) ?c ?b))",
    "joint": "(row (name:n any:e name:o any:h any:b) (apply (apply (given ?n (given ?o ?b)) ?e) ?h))",
    "left": "(row (any:p) (apply ?p (given u (given v u))))",
    "lets": (
        "(row (name:n any:e any:b) (hold ?n ?e ?b)) "
        "(row (name:n any:e name:o any:h any:b) (hold ?n ?e (hold ?o ?h ?b)))"
    ),
    "nay": "(row (any:a) (test ?a 0 1))",
    "orelse": "(row (any:a any:b) (hold t ?a (test t t ?b)))",
    "pair": "(row (any:a any:b) (hold u ?a (hold v ?b (given s (apply (apply s u) v)))))",
    "right": "(row (any:p) (apply ?p (given u (given v v))))",
    "sum": (
        "(row (name:n any:e any:b) (hold f (given g (given ?n (test ?n "
        "(+ ?b (apply (apply g g) (- ?n 1))) 0))) (apply (apply f f) ?e)))"
    ),
    "times": (
        "(row (any:e any:h any:x) (hold k ?h (hold f (given g (given i (given y (test i "
        "(apply (apply (apply g g) (- i 1)) (apply k y)) y)))) (apply (apply (apply f f) ?e) ?x))))"
    ),
}


def is_library_word(value):
    """Whether a value is a word of the library."""
    return isinstance(value, str) and value in LIBRARY


def need_lot(value):
    """Raises an error if a value is no lot."""
    if not isinstance(value, tuple) or not all([is_library_word(word) for word in value]):
        raise InvalidLot("not a tuple of words of the library")
    if len(set(value)) != len(value):
        raise InvalidLot("a word twice")


def need_client(value):
    """Raises an error if a value is no client."""
    need_bare(value)
    if any([part[0] == "maker" for _, part in placed_parts(value, False)]):
        raise InvalidTree("a tree with a maker")


def need_library_word(value):
    """Raises an error if a value is no word of the library."""
    if not is_library_word(value):
        raise InvalidWord("not a word of the library")


def library_words():
    """The ascending list of the words of the library."""
    return sorted(LIBRARY)


def library_rows(word):
    """The rows of a maker of the library."""
    need_library_word(word)
    return library_maker(word, ("amount", 0))[2]


def library_maker(word, body):
    """The maker of a word of the library with this body."""
    _, name, rows, _ = read_tree(f"(maker {word} {LIBRARY[word]} 0)")
    return ("maker", name, rows, body)


def brought_by(word):
    """The ascending list of the words of all names in the forms and patterns of a maker of the library."""
    need_library_word(word)
    maker = library_maker(word, ("amount", 0))
    names = all_names(("maker", ("fill", word), maker[2], maker[3]))
    return sorted({name[0] for name in names})


def with_library(lot, client):
    """The client with the makers of a lot around it."""
    need_lot(lot)
    need_client(client)
    tree = client
    for word in lot[::-1]:
        tree = library_maker(word, tree)
    if not is_tree(tree):
        raise InvalidTree("too great or too deep with the makers around it")
    return tree

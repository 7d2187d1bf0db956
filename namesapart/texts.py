"""The texts of trees, written and read.

Reading puts together each bracket's items as soon as it ends, without recursion: an open bracket keeps
a list of pairs (kind, told), kinds being "item" for what is no bracket, "tree", "row" and "pattern".
"""

from namesapart.errors import InvalidText, InvalidTree
from namesapart.shapes import SIGNS
from namesapart.trees import is_tree, need_tree
from namesapart.words import LETTERS

FIGURES = "0123456789"
MOST_OPEN = 200

# Figures beyond so many are cut off: what is left is beyond each bound all the same.
MOST_FIGURES = 20


def tree_text(tree):
    """The text of a tree."""
    need_tree(tree)
    return text_of(tree)


def text_of(tree):
    """The text of a tree or a form."""
    kind = tree[0]
    if kind == "amount":
        return str(tree[1])
    if kind == "use":
        return name_text(tree[1])
    if kind == "fill":
        return "?" + tree[1]
    return "(" + " ".join(item_texts(tree)) + ")"


def item_texts(tree):
    """The texts of what stands within the brackets of a tree."""
    kind = tree[0]
    if kind == "make":
        return [kind, name_text(tree[1])] + [text_of(piece) for piece in tree[2]]
    if kind in ("given", "hold"):
        return [kind, name_text(tree[1])] + [text_of(part) for part in tree[2:]]
    if kind == "reckon":
        return [tree[1]] + [text_of(part) for part in tree[2:]]
    if kind == "maker":
        return [kind, name_text(tree[1])] + [row_text(row) for row in tree[2]] + [text_of(tree[3])]
    return [kind] + [text_of(part) for part in tree[1:]]


def name_text(name):
    """The text of a name, or of the fill that stands for one."""
    if name[0] == "fill":
        return "?" + name[1]
    return name[0] + "".join([f"@{mark}" for mark in name[1]])


def row_text(row):
    """The text of a row."""
    pieces = " ".join([piece_text(piece) for piece in row[0]])
    return f"(row ({pieces}) {text_of(row[1])})"


def piece_text(piece):
    """The text of a piece of a pattern."""
    kind, told = piece
    if kind == "amount":
        return str(told)
    if kind == "word":
        return "word:" + name_text(told)
    return kind + ":" + told


def read_tree(text):
    """The tree that has this text."""
    if not isinstance(text, str):
        raise InvalidText("no string")
    if opens_too_many(text):
        raise InvalidTree("too many brackets are open at once")
    tree = tree_read(text)
    if not is_tree(tree):
        raise InvalidTree("the text of a tree that breaks a bound or a rule")
    return tree


def opens_too_many(text):
    """Whether more brackets are open at once than are let, ends without a beginning not counted."""
    many = 0
    for sign in text:
        if sign == "(":
            many = many + 1
        elif sign == ")" and many > 0:
            many -= 1
        if many > MOST_OPEN:
            return True
    return False


def tree_read(text):
    """What has this text, told like a tree, whatever words, figures and bounds it has."""
    spaced = text.replace("\n", " ").replace("(", " ( ").replace(")", " ) ")
    groups = [[]]
    for item in spaced.split(" "):
        if item == "(":
            groups.append([])
        elif item == ")":
            group = groups.pop()
            if not groups:
                raise InvalidText("a bracket ends that did not begin")
            groups[-1].append(group_read(group))
        elif item:
            groups[-1].append(("item", item))
    if len(groups) != 1 or len(groups[0]) != 1:
        raise InvalidText("not just one text with as many beginning as ending brackets")
    return tree_told(groups[0][0])


def group_read(group):
    """The pair of a kind, and of what stands within two brackets."""
    head = group[0][1] if group and group[0][0] == "item" else ""
    rest = group[1:]
    if head == "row":
        return ("row", row_told(rest))
    if head in SIGNS:
        return ("tree", ("reckon", head, *trees_told(rest, 2)))
    if head == "apply":
        return ("tree", ("apply", *trees_told(rest, 2)))
    if head == "test":
        return ("tree", ("test", *trees_told(rest, 3)))
    if head in ("given", "hold", "make", "maker"):
        return ("tree", named_told(head, rest))
    return ("pattern", tuple([piece_told(item) for item in group]))


def named_told(head, rest):
    """The tree with this word ahead, whose first item is a name."""
    if not rest:
        raise InvalidText("a name is wanting")
    if head == "make":
        return ("make", name_told(rest[0]), tuple([tree_told(item) for item in rest[1:]]))
    name = binder_name_told(rest[0])
    if head == "given":
        return ("given", name, *trees_told(rest[1:], 1))
    if head == "hold":
        return ("hold", name, *trees_told(rest[1:], 2))
    if len(rest) < 3 or not all([item[0] == "row" for item in rest[1:-1]]):
        raise InvalidText("a maker has a row or more, and a body")
    return ("maker", name, tuple([item[1] for item in rest[1:-1]]), tree_told(rest[-1]))


def row_told(rest):
    """The row with these items behind its word."""
    if len(rest) != 2 or rest[0][0] != "pattern":
        raise InvalidText("a row has a pattern and a form")
    return (rest[0][1], tree_told(rest[1]))


def trees_told(items, many):
    """The trees that items are, which must be so many."""
    if len(items) != many:
        raise InvalidText("not as many items as there should be")
    return [tree_told(item) for item in items]


def tree_told(item):
    """The tree that an item is."""
    kind, told = item
    if kind == "tree":
        return told
    if kind != "item":
        raise InvalidText("a row or a pattern stands where a tree should")
    if told[0] == "?":
        return ("fill", letters_told(told[1:]))
    if are_figures(told):
        return ("amount", figures_told(told))
    return ("use", name_told(item))


def binder_name_told(item):
    """The name, or the fill for a name, that an item is."""
    kind, told = item
    if kind == "item" and told[0] == "?":
        return ("fill", letters_told(told[1:]))
    return name_told(item)


def name_told(item):
    """The name that an item is."""
    kind, told = item
    if kind != "item":
        raise InvalidText("brackets stand where a name should")
    return marked_told(told)


def marked_told(text):
    """The name that has this text."""
    first, *marks = text.split("@")
    if not all([are_figures(mark) for mark in marks]):
        raise InvalidText("no figures behind an @")
    return (letters_told(first), tuple([figures_told(mark) for mark in marks]))


def piece_told(item):
    """The piece of a pattern that an item is."""
    kind, told = item
    if kind != "item":
        raise InvalidText("brackets stand where a piece should")
    if are_figures(told):
        return ("amount", figures_told(told))
    head, _, rest = told.partition(":")
    if head in ("any", "name"):
        return (head, letters_told(rest))
    if head == "word":
        return (head, marked_told(rest))
    raise InvalidText("no piece of a pattern")


def letters_told(text):
    """The text itself, which must be a row of letters."""
    if not text or not all([letter in LETTERS for letter in text]):
        raise InvalidText("no row of letters")
    return text


def are_figures(text):
    """Whether a text is that of an integer, as Python writes it."""
    figures = text[1:] if text.startswith("-") else text
    if not figures or not all([figure in FIGURES for figure in figures]):
        return False
    return text == "0" or figures[0] != "0"


def figures_told(text):
    """The integer with these figures, or, if it is beyond all bounds, another one that is."""
    return int(text[:MOST_FIGURES])

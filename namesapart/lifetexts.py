"""The texts of journeys, written and read."""

from namesapart.errors import InvalidJourney, InvalidText, InvalidTree
from namesapart.lifejourneys import is_journey, works_needed
from namesapart.texts import are_figures, figures_told, read_tree, text_of


def journey_text(journey):
    """The text of a journey."""
    works_needed(journey)
    return text_of_journey(journey)


def text_of_journey(journey):
    """As journey_text."""
    tree, order = journey
    return "\n".join([text_of(tree)] + [path_text(path) for path in order])


def path_text(path):
    """The text of a path."""
    return " ".join([str(index) for index in path])


def read_journey(value):
    """The journey that has this text, sign for sign."""
    journey = journey_told(value) if isinstance(value, str) else None
    if not is_journey(journey) or text_of_journey(journey) != value:
        raise InvalidJourney("not the text of a journey")
    return journey


def journey_told(text):
    """The pair of a tree and of an order that a text tells, whether it is a journey or not, or None."""
    first, *lines_behind = text.split("\n")
    try:
        tree = read_tree(first)
    except (InvalidText, InvalidTree):
        return None
    return (tree, tuple([path_told(line) for line in lines_behind]))


def path_told(line):
    """The path that a line tells, or None, which is no path."""
    figures = line.split(" ") if line else []
    if not all([are_figures(item) for item in figures]):
        return None
    return tuple([figures_told(item) for item in figures])

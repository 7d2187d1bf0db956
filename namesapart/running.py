"""Running programs step by step."""

from namesapart.errors import InvalidNumber, InvalidProgram
from namesapart.makings import all_made
from namesapart.meanings import words_free_in
from namesapart.plain import plain_or_wanting
from namesapart.shapes import parts_in, with_parts
from namesapart.trees import is_plain, is_tree, need_tree
from namesapart.words import is_amount, is_between

MOST_STEPS = 400


def is_program(value):
    """Whether a value is a plain tree without free names."""
    return is_plain(value) and not words_free_in((value, ()))


def need_program(value):
    """Raises an error if a value is no program."""
    need_tree(value)
    if not is_program(value):
        raise InvalidProgram("a tree that is no program")


def need_steps(value):
    """Raises an error if a value is no number of steps."""
    if not is_between(value, 0, MOST_STEPS):
        raise InvalidNumber("not an integer from 0 to the most steps")


def step_of(program):
    """The program behind its step, or its end."""
    need_program(program)
    return stepped_within(program)


def run_of(program, most):
    """The pair of the end of a program and of how many steps it did."""
    need_program(program)
    need_steps(most)
    return run_within(program, most)


def shown_by(tree, most):
    """The first stop of making a tree, what hinders its running, or its end."""
    need_tree(tree)
    need_steps(most)
    told = program_of(all_made((tree, ()), ()))
    if told[0] != "program":
        return told
    return run_within(told[1], most)[0]


def program_of(result):
    """The program that what comes of making is, or what hinders its running."""
    if result[0] == "stopped":
        return result
    plain = plain_or_wanting(result[1])
    if plain[0] == "wanting":
        return plain
    free = words_free_in((plain, ()))
    if free:
        return ("free", tuple(free))
    return ("program", plain)


def run_within(program, most):
    """As run_of."""
    done = 0
    result = stepped_within(program)
    while result[0] == "step" and done < most:
        done = done + 1
        result = stepped_within(result[1])
    if result[0] == "step":
        return (("more",), done)
    return (result, done)


def stepped_within(program):
    """As step_of."""
    result = stepped(program)
    if result[0] == "step" and not is_tree(result[1]):
        return ("stuck", "great")
    return result


def is_value(tree):
    """Whether a program is a value."""
    return tree[0] in ("amount", "given")


def stepped(program):
    """As step_of, but for the bounds of trees; of an open tree, the word to be asked, where a use comes first."""
    kind = program[0]
    if kind == "amount":
        return ("value", program[1])
    if kind == "given":
        return ("value", "given")
    if kind == "use":
        return ("asks", program[1][0])
    kids = parts_in(program)
    for at in worked_ahead(kind):
        if not is_value(kids[at]):
            return stepped_part(program, at)
    if kind == "apply":
        return applied(kids)
    if kind == "hold":
        return ("step", put_for(kids[1], program[1], kids[0]))
    if kind == "reckon":
        return reckoned(program[1], kids)
    return tested(kids)


def worked_ahead(kind):
    """The indices of the parts that must be values ahead of a step at a tree of this kind itself."""
    if kind in ("apply", "reckon"):
        return (0, 1)
    return (0,)


def stepped_part(program, at):
    """The program with a step done in its part with this index, or the end there."""
    kids = list(parts_in(program))
    result = stepped(kids[at])
    if result[0] != "step":
        return result
    kids[at] = result[1]
    return ("step", with_parts(program, kids))


def applied(kids):
    """What comes of applying the one value to the other one."""
    one, two = kids
    if one[0] == "amount":
        return ("stuck", "apply")
    return ("step", put_for(one[2], one[1], two))


def reckoned(sign, kids):
    """What comes of reckoning with two values."""
    one, two = kids
    if one[0] != "amount" or two[0] != "amount":
        return ("stuck", "reckon")
    amount = reckoned_amount(sign, one[1], two[1])
    if not is_amount(amount):
        return ("stuck", "great")
    return ("step", ("amount", amount))


def reckoned_amount(sign, one, two):
    """The integer that comes of two amounts."""
    if sign == "+":
        return one + two
    if sign == "-":
        return one - two
    return one * two


def tested(kids):
    """What comes of testing a value."""
    one, two, three = kids
    if one[0] != "amount":
        return ("stuck", "test")
    return ("step", three if one[1] == 0 else two)


def put_for(tree, name, value):
    """The tree with a value put for all free uses of a name; the value has no free names that could be bound."""
    kind = tree[0]
    if kind == "use":
        return value if tree[1] == name else tree
    kids = parts_in(tree)
    if kind == "given" and tree[1] == name:
        return tree
    if kind == "hold" and tree[1] == name:
        return with_parts(tree, [put_for(kids[0], name, value), kids[1]])
    return with_parts(tree, [put_for(kid, name, value) for kid in kids])

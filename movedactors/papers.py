"""Papers: equations of joint controls that show that rows are right and that a role is alike."""

from movedactors.parts import is_row
from movedactors.plain import is_same_value
from movedactors.solved import Solved
from movedactors.terms import put_in, wrong_part_over

SELF_VARIABLE = ("self",)


def fits(joint, role, paper):
    """Whether a paper, which may be anything, is a paper of a role that fits."""
    known = joint.pairs(role)
    if not is_paper(joint, known, paper):
        return False
    table = {pair: equations for pair, equations in paper}
    if not all([holds_at_first(joint, table, begun) for begun in joint.begun(role)]):
        return False
    return all([follows_behind(joint, table, pair) for pair in table])


def is_paper(joint, known, paper):
    """Whether a paper, which may be anything, has different ones of the known joint controls, with equations."""
    if not isinstance(paper, tuple):
        return False
    if not all([is_row(member, 2) and member[0] in known for member in paper]):
        return False
    if len({member[0]: True for member in paper}) != len(paper):
        return False
    return all([are_equations(joint, pair, equations) for pair, equations in paper])


def are_equations(joint, pair, equations):
    """Whether equations, which may be anything, are equations of a joint control."""
    if not isinstance(equations, tuple) or not all([is_row(equation, 2) for equation in equations]):
        return False
    free = joint.variables(pair) + [SELF_VARIABLE]
    for variable, _ in equations:
        if variable not in free or variable == SELF_VARIABLE:
            return False
        free.remove(variable)
    primitives = joint.change().old().book().primitives()
    for _, term in equations:
        if wrong_part_over(primitives, free, term) is not None:
            return False
    return True


def holds_at_first(joint, table, begun):
    """Whether the joint control at which the codes begin is in a paper, and its equations hold there."""
    _, pair, terms = begun
    if pair not in table:
        return False
    held = held_terms(joint, pair, terms)
    return all([is_same_value(held[variable], put_in(term, held)) for variable, term in table[pair]])


def held_terms(joint, pair, terms):
    """The table of the terms of the variables of a joint control."""
    return {variable: term for variable, term in zip(joint.variables(pair), terms)}


def solved_at(joint, table, pair):
    """The equations of a joint control of a paper."""
    solved = Solved(joint.variables(pair), [SELF_VARIABLE])
    for variable, term in table[pair]:
        solved.made_equal(("var", variable), term)
    return solved


def follows_behind(joint, table, pair):
    """Whether what a paper has behind each arrival that goes on follows from the equations ahead of it."""
    solved = solved_at(joint, table, pair)
    for kind, words in joint.arrivals(pair):
        going = joint.meeting(pair, kind, words)[2]
        if going is not None and not follows_there(joint, table, solved, going):
            return False
    return True


def follows_there(joint, table, solved, going):
    """Whether the joint control behind an arrival is in a paper, and its equations follow."""
    pair, terms = going
    if pair not in table:
        return False
    held = held_terms(joint, pair, terms)
    return all([solved.holds(held[variable], put_in(term, held)) for variable, term in table[pair]])


def shows_row(joint, row, paper):
    """Whether a paper, which may be anything, shows a row."""
    control, mode, words, terms = row
    if not fits(joint, control[0], paper):
        return False
    table = {pair: equations for pair, equations in paper}
    expected = (joint.change().of_role(control[0])[1], mode, words)
    pairs = [pair for pair in table if pair[0] == control]
    if not all([pair[1] == expected for pair in pairs]):
        return False
    return all([follows_row(joint, table, pair, terms) for pair in pairs])


def follows_row(joint, table, pair, terms):
    """Whether each register of the new control is the term of a row for it, by the equations of a paper."""
    solved = solved_at(joint, table, pair)
    return all([solved.holds(one, other) for one, other in row_equations(joint, pair, terms)])


def row_equations(joint, pair, terms):
    """The list of the equations that hold at a joint control if the terms of a row are right there."""
    known = joint.variables(pair)
    olds = {("register", x): ("var", (word, x)) for word, x in known if word == "old"}
    news = [("var", variable) for variable in known if variable[0] == "new"]
    return [(new, put_in(term, olds)) for new, term in zip(news, terms)]


def shows_alike(joint, role, paper):
    """Whether a paper, which may be anything, shows that a role is alike."""
    if not fits(joint, role, paper):
        return False
    table = {pair: equations for pair, equations in paper}
    return all([is_alike_at(joint, table, pair) for pair in table])


def is_alike_at(joint, table, pair):
    """Whether both codes do the same at a joint control of a paper, by its equations."""
    old_heeds, new_heeds = joint.heeds(pair)
    if old_heeds != new_heeds:
        return False
    solved = solved_at(joint, table, pair)
    for kind, words in joint.arrivals(pair):
        place, demands, _ = joint.meeting(pair, kind, words)
        if place is not None or not all([solved.holds(one, other) for one, other in demands]):
            return False
    return True

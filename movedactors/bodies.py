"""Checks of the bodies of starts and handlers."""

from movedactors.parts import Scope, check_filled, check_new_name, check_term, field_names
from movedactors.parts import is_key, is_row, is_told, require, sort_of
from movedactors.words import is_name


class Frame:
    """What a body may name: of a start if there is no kind, otherwise of the handler of a mode and a kind."""

    def __init__(self, code, role, mode, kind):
        self.code = code
        self.role = role
        self.is_start = kind is None
        if self.is_start:
            self.marks, self.things = code.start_fields(role)
            self.once = ()
        else:
            marks, things = code.kind_fields(kind)
            self.marks, self.once = code.mode_fields(role, mode)
            self.things = self.once + things
            self.marks = self.marks + marks
        self.names = field_names(self.marks, self.things)


def check_bodies(code, roles):
    """The bodies of the starts and the handlers of roles whose heads are right."""
    for k, role in enumerate(roles):
        check_body(Frame(code, role[0], None, None), role[2][2], (1, k, 2, 2))
        check_handlers(code, role[0], role[3], (1, k, 3))


def check_handlers(code, role, handlers, path):
    """The handlers of a role, which may be anything."""
    due = code.due(role)
    require(is_row(handlers, len(due)), path)
    for k, (mode, kind) in enumerate(due):
        handler = handlers[k]
        place = path + (k,)
        require(is_told(handler, mode, 3) and handler[1] == kind, place)
        frame = Frame(code, role, mode, kind)
        require(len(set(frame.names)) == len(frame.names), place)
        check_body(frame, handler[2], place + (2,))


def check_body(frame, body, path):
    """A body, which may be anything."""
    todo = [(body, path)]
    while todo:
        part, place = todo.pop()
        if is_told(part, "if", 5):
            check_question(frame, part, place)
            todo.extend([(part[4], place + (4,)), (part[3], place + (3,))])
        else:
            require(is_told(part, "do", 6), place)
            check_leaf(frame, part, place)


def check_question(frame, part, path):
    """The mark and the word of an "if"."""
    sort = sort_of(frame.marks, part[1])
    require(sort is not None, path + (1,))
    require(part[2] in frame.code.book.words(sort), path + (2,))


def check_leaf(frame, leaf, path):
    """The members of a leaf."""
    variables = frame.things + ("self",) + children_of(leaf[1])
    scope = Scope(frame.code.book, frame.marks, variables)
    may_link = not frame.is_start and is_told(leaf[5], "go", 4)
    check_makes(frame, scope, leaf[1], path + (1,))
    check_joined(scope, leaf[2], path + (2,), may_link)
    check_joined(scope, leaf[3], path + (3,), may_link)
    check_sends(frame, scope, leaf[4], path + (4,))
    check_end(frame, scope, leaf[5], path + (5,))


def children_of(makes):
    """The children of a leaf, also where its makes are wrong otherwise."""
    if not isinstance(makes, tuple):
        return ()
    firsts = [make[0] for make in makes if isinstance(make, tuple) and len(make) > 0]
    return tuple([first for first in firsts if is_name(first)])


def check_makes(frame, scope, makes, path):
    """The makes of a leaf; those of a start have to be ()."""
    require(isinstance(makes, tuple) and not (frame.is_start and makes), path)
    seen = list(frame.names)
    for k, make in enumerate(makes):
        place = path + (k,)
        require(is_row(make, 4), place)
        check_new_name(make[0], place + (0,), seen)
        require(is_key(frame.code.start_table, make[1]), place + (1,))
        check_filled(scope, make, place, frame.code.start_fields(make[1]), ())
        seen.append(make[0])


def check_joined(scope, terms, path, may_link):
    """The links or the watches of a leaf, which have to be () where it may have none."""
    require(isinstance(terms, tuple) and (may_link or not terms), path)
    for k, term in enumerate(terms):
        check_term(scope, term, path + (k,))


def check_sends(frame, scope, sends, path):
    """The sends of a leaf; those of a start have to be ()."""
    require(isinstance(sends, tuple) and not (frame.is_start and sends), path)
    for k, send in enumerate(sends):
        place = path + (k,)
        require(is_row(send, 4), place)
        check_term(scope, send[0], place + (0,))
        require(is_key(frame.code.kind_table, send[1]) and send[1] != "gone", place + (1,))
        check_filled(scope, send, place, frame.code.kind_fields(send[1]), ())


def check_end(frame, scope, end, path):
    """The end of a leaf; that of a start has to go."""
    if is_told(end, "go", 4):
        require(frame.code.has_mode(frame.role, end[1]), path + (1,))
        check_filled(scope, end, path, frame.code.mode_fields(frame.role, end[1]), frame.once)
    elif is_told(end, "fail", 2):
        require(not frame.is_start, path)
        require(end[1] in scope.book.reasons(), path + (1,))
    else:
        require(is_told(end, "stop", 1) and not frame.is_start, path)

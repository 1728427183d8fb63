"""Books, editions and changes that are read."""

from movedactors.books import Book
from movedactors.changes import Change
from movedactors.editions import Edition
from movedactors.forms import read_ended_word, read_listed, read_marks, read_names, read_rows
from movedactors.forms import read_term, read_terms, read_turned, read_word, read_words, take_all
from movedactors.tape import Tape


def read_book(text):
    """The book whose text this is."""
    tape = Tape(text)
    take_all(tape, ("book", "{"))
    sorts = read_rows(tape, "sort", read_sort)
    primitives = read_rows(tape, "prim", read_primitive)
    ports = read_rows(tape, "port", read_ended_word)
    reasons = read_rows(tape, "reason", read_ended_word)
    take_all(tape, ("}", ""))
    return Book(sorts, primitives, ports, reasons)


def read_edition(book, text):
    """The edition of a book whose text this is."""
    tape = Tape(text)
    take_all(tape, ("edition", "{"))
    kinds = read_rows(tape, "kind", read_kind)
    roles = read_rows(tape, "role", read_role)
    tree = read_tree(tape)
    take_all(tape, ("}", ""))
    return Edition(book, kinds, roles, tree)


def read_change(old, new, text):
    """The change from one edition to another whose text this is."""
    tape = Tape(text)
    take_all(tape, ("change", "{"))
    kinds = read_rows(tape, "kind", read_kind_row)
    roles = read_rows(tape, "role", read_role_row)
    rows = read_rows(tape, "row", read_row)
    take_all(tape, ("}", ""))
    return Change(old, new, kinds, roles, rows)


def read_sort(tape):
    """A sort, behind its first word."""
    name = tape.take_word()
    words = []
    while not tape.took(";"):
        words.append(tape.take_word())
    return (name, tuple(words))


def read_primitive(tape):
    """A primitive, behind its first word."""
    name = tape.take_word()
    count = tape.take_number()
    tape.take_this(";")
    return (name, count)


def read_kind(tape):
    """A kind, behind its first word."""
    name = tape.take_word()
    port = tape.take_word()
    marks = read_marks(tape)
    things = read_names(tape)
    tape.take_this(";")
    return (name, port, marks, things)


def read_role(tape):
    """A role, behind its first word."""
    name = tape.take_word()
    tape.take_this("{")
    modes = read_rows(tape, "mode", read_mode)
    tape.take_this("start")
    marks = read_marks(tape)
    things = read_names(tape)
    start = (marks, things, read_body(tape))
    handlers = read_rows(tape, "on", read_handler)
    tape.take_this("}")
    return (name, tuple(modes), start, tuple(handlers))


def read_mode(tape):
    """A mode, behind its first word."""
    name = tape.take_word()
    marks = read_marks(tape)
    things = read_names(tape)
    ports = read_listed(tape, "[", "]", read_word)
    heeds = tape.took("heeds")
    tape.take_this(";")
    return (name, marks, things, ports, heeds)


def read_handler(tape):
    """A handler, behind its first word."""
    mode = tape.take_word()
    kind = tape.take_word()
    return (mode, kind, read_body(tape))


def read_body(tape):
    """A body.

    Each "if" around what is read waits with its mark and its word, and from its "else" on with its first body.
    """
    waiting = []
    while True:
        if tape.took("if"):
            mark = tape.take_word()
            waiting.append(("if", mark, tape.take_word()))
            continue
        body = read_leaf(tape)
        while waiting and len(waiting[-1]) == 4:
            body = waiting.pop() + (body,)
        if not waiting:
            return body
        tape.take_this("else")
        waiting.append(waiting.pop() + (body,))


def read_leaf(tape):
    """A leaf."""
    tape.take_this("{")
    makes = read_rows(tape, "make", read_make)
    links = read_rows(tape, "link", read_ended_term)
    watches = read_rows(tape, "watch", read_ended_term)
    sends = read_rows(tape, "send", read_send)
    end = read_end(tape)
    tape.take_this("}")
    return ("do", tuple(makes), tuple(links), tuple(watches), tuple(sends), end)


def read_filled(tape):
    """Mark words and terms, and the ; behind them."""
    words = read_words(tape)
    terms = read_terms(tape, None)
    tape.take_this(";")
    return (words, terms)


def read_make(tape):
    """A make, behind its first word."""
    child = tape.take_word()
    role = tape.take_word()
    return (child, role) + read_filled(tape)


def read_ended_term(tape):
    """A term and the ; behind it."""
    term = read_term(tape, None)
    tape.take_this(";")
    return term


def read_send(tape):
    """A send, behind its first word."""
    receiver = read_term(tape, None)
    kind = tape.take_word()
    return (receiver, kind) + read_filled(tape)


def read_end(tape):
    """The end of a leaf."""
    if tape.took("go"):
        return ("go", tape.take_word()) + read_filled(tape)
    if tape.took("fail"):
        return ("fail", read_ended_word(tape))
    take_all(tape, ("stop", ";"))
    return ("stop",)


def read_tree(tape):
    """A tree. The supervisors around what is read wait, each with the list of the children that it has so far."""
    found = []
    waiting = [((), found)]
    while True:
        if tape.took("supervisor"):
            waiting.append((read_supervisor(tape), []))
        elif len(waiting) == 1:
            return tuple(found)
        elif tape.took("slot"):
            waiting[-1][1].append(read_slot(tape))
        else:
            tape.take_this("}")
            first, children = waiting.pop()
            waiting[-1][1].append(first + (tuple(children),))


def read_supervisor(tape):
    """A supervisor without its children, behind its first word."""
    name = tape.take_word()
    way = tape.take_word()
    limit = tape.take_number()
    tape.take_this("{")
    return ("supervisor", name, way, limit)


def read_slot(tape):
    """A slot, behind its first word."""
    address = tape.take_number()
    role = tape.take_word()
    words = read_names(tape)
    things = read_terms(tape, None)
    tape.take_this(";")
    return ("slot", address, role, words, things)


def read_turned_row(tape, sort):
    """A member of the kinds or roles of a change, behind its first word."""
    old = tape.take_word()
    tape.take_this("to")
    new = tape.take_word()
    words = read_turned(tape)
    terms = read_terms(tape, sort)
    tape.take_this(";")
    return (old, new, words, terms)


def read_kind_row(tape):
    """A member of the kinds of a change, behind its first word."""
    return read_turned_row(tape, "field")


def read_role_row(tape):
    """A member of the roles of a change, behind its first word."""
    return read_turned_row(tape, "given")


def read_row(tape):
    """A row of a change, behind its first word."""
    role = tape.take_word()
    old = tape.take_word()
    words = read_names(tape)
    tape.take_this("to")
    mode = tape.take_word()
    marking = read_names(tape)
    terms = read_terms(tape, "register")
    tape.take_this(";")
    return ((role, old, words), mode, marking, terms)

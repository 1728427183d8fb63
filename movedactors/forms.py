"""Forms that the texts of books, editions and changes have in common."""


def take_all(tape, lexemes):
    """Takes lexemes that have to come next; "" is the end of the text."""
    for lexeme in lexemes:
        tape.take_this(lexeme)


def read_rows(tape, word, read_behind):
    """The list of all that begins with a word, each member as it is read behind this word."""
    rows = []
    while tape.took(word):
        rows.append(read_behind(tape))
    return rows


def read_listed(tape, opener, closer, read_member):
    """The tuple of the members between brackets."""
    tape.take_this(opener)
    if tape.took(closer):
        return ()
    members = [read_member(tape)]
    while tape.took(","):
        members.append(read_member(tape))
    tape.take_this(closer)
    return tuple(members)


def read_word(tape):
    """A word."""
    return tape.take_word()


def read_ended_word(tape):
    """A word and the ; behind it."""
    word = tape.take_word()
    tape.take_this(";")
    return word


def read_names(tape):
    """Names in brackets."""
    return read_listed(tape, "(", ")", read_word)


def read_pair(tape):
    """A mark and its sort."""
    name = tape.take_word()
    return (name, tape.take_word())


def read_marks(tape):
    """Marks in brackets."""
    return read_listed(tape, "(", ")", read_pair)


def read_mark_word(tape):
    """A mark word."""
    if tape.took("$"):
        return ("mark", tape.take_word())
    return ("word", tape.take_word())


def read_words(tape):
    """Mark words in brackets."""
    return read_listed(tape, "(", ")", read_mark_word)


def read_turned_pair(tape):
    """A pair of a table."""
    old = tape.take_word()
    tape.take_this(":")
    return (old, tape.take_word())


def read_turned_word(tape):
    """A changed mark word."""
    part = read_mark_word(tape)
    if part[0] == "word" and tape.next_lexeme() == "[":
        return ("table", part[1], read_listed(tape, "[", "]", read_turned_pair))
    return part


def read_turned(tape):
    """Changed mark words in brackets."""
    return read_listed(tape, "(", ")", read_turned_word)


def read_terms(tape, sort):
    """Terms in brackets, with variables of a sort."""
    return read_listed(tape, "(", ")", lambda inner: read_term(inner, sort))


def read_term(tape, sort):
    """A term with variables of a sort.

    Those that are written around it and not read to their ends wait with the terms that they have so far.
    """
    waiting = []
    while True:
        name = tape.take_word()
        term = ("var", variable_of(sort, name))
        if tape.took("("):
            if not tape.took(")"):
                waiting.append((name, []))
                continue
            term = ("of", name, ())
        while waiting:
            waiting[-1][1].append(term)
            if tape.took(","):
                break
            tape.take_this(")")
            name, members = waiting.pop()
            term = ("of", name, tuple(members))
        else:
            return term


def variable_of(sort, name):
    """The variable that a name stands for, where sort is None for the terms of bodies."""
    if sort is None:
        return name
    if sort == "register" and name == "self":
        return ("self",)
    return (sort, name)

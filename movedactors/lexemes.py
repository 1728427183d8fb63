"""Lexemes of what is written, and how a text is laid out.

A word and the bracket that stands directly behind it, of a primitive or of a table, are one string here.
"""

OPENERS = "([$"
CLOSERS = (")", "]", ",", ";", ":")
LINE_ENDS = (";", "{", "}")


def written(lexemes):
    """The text of lexemes."""
    out = []
    glued = True
    for lexeme in lexemes:
        if not glued and lexeme not in CLOSERS:
            out.append(" ")
        out.append(lexeme)
        if lexeme in LINE_ENDS:
            out.append("\n")
        glued = lexeme in LINE_ENDS or lexeme[-1] in OPENERS
    return "".join(out)


def listed(opener, rows, closer):
    """The lexemes of a list in brackets, of which each row has the lexemes of a member."""
    out = [opener]
    for k, row in enumerate(rows):
        out.extend(row if k == 0 else [","] + row)
    return out + [closer]


def listed_names(names):
    """The lexemes of names in brackets."""
    return listed("(", [[name] for name in names], ")")


def listed_terms(terms):
    """The lexemes of terms in brackets."""
    return listed("(", [term_lexemes(term) for term in terms], ")")


def listed_words(words):
    """The lexemes of mark words and changed mark words in brackets."""
    return listed("(", [word_lexemes(part) for part in words], ")")


def term_lexemes(term):
    """The lexemes of a term. A variable that is a tuple is told by its last member."""
    out = []
    todo = [term]
    while todo:
        part = todo.pop()
        if isinstance(part, str):
            out.append(part)
        elif part[0] == "var":
            out.append(part[1] if isinstance(part[1], str) else part[1][-1])
        else:
            out.append(part[1] + "(")
            todo.append(")")
            todo.extend(member_lexemes(part[2])[::-1])
    return out


def member_lexemes(terms):
    """Terms with a comma between two of them."""
    out = []
    for k, term in enumerate(terms):
        out.extend([term] if k == 0 else [",", term])
    return out


def word_lexemes(part):
    """The lexemes of a mark word or a changed mark word."""
    if part[0] == "word":
        return [part[1]]
    if part[0] == "mark":
        return ["$", part[1]]
    return listed(part[1] + "[", [[old, ":", new] for old, new in part[2]], "]")

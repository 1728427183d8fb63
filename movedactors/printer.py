"""The texts that are written of books, editions and changes."""

from movedactors.lexemes import listed, listed_names, listed_terms, listed_words, term_lexemes, written


def book_text(book):
    """The text of a book."""
    out = ["book", "{"]
    for name, words in book.sorts()[:-1]:
        out.extend(["sort", name] + list(words) + [";"])
    for name, count in book.primitives():
        out.extend(["prim", name, str(count), ";"])
    for name in book.ports()[:-1]:
        out.extend(["port", name, ";"])
    for name in book.reasons():
        out.extend(["reason", name, ";"])
    return written(out + ["}"])


def edition_text(edition):
    """The text of an edition."""
    out = ["edition", "{"]
    for name, port, marks, things in edition.kinds()[:-1]:
        out.extend(["kind", name, port] + marks_lexemes(marks) + listed_names(things) + [";"])
    for role in edition.roles():
        out.extend(role_lexemes(role))
    return written(out + tree_lexemes(edition.tree()) + ["}"])


def change_text(change):
    """The text of a change."""
    out = ["change", "{"]
    for row in change.kinds():
        out.extend(["kind"] + turned_lexemes(row))
    for row in change.roles():
        out.extend(["role"] + turned_lexemes(row))
    for row in change.rows():
        out.extend(["row"] + row_lexemes(row))
    return written(out + ["}"])


def marks_lexemes(marks):
    """The lexemes of marks in brackets."""
    return listed("(", [[name, sort] for name, sort in marks], ")")


def role_lexemes(role):
    """The lexemes of a role."""
    name, modes, start, handlers = role
    out = ["role", name, "{"]
    for mode in modes:
        out.extend(mode_lexemes(mode))
    out.extend(["start"] + marks_lexemes(start[0]) + listed_names(start[1]) + body_lexemes(start[2]))
    for mode, kind, body in handlers:
        out.extend(["on", mode, kind] + body_lexemes(body))
    return out + ["}"]


def mode_lexemes(mode):
    """The lexemes of a mode."""
    name, marks, things, ports, heeds = mode
    out = ["mode", name] + marks_lexemes(marks) + listed_names(things)
    out.extend(listed("[", [[port] for port in ports], "]"))
    return out + (["heeds", ";"] if heeds else [";"])


def body_lexemes(body):
    """The lexemes of a body."""
    out = []
    todo = [body]
    while todo:
        part = todo.pop()
        if isinstance(part, str):
            out.append(part)
        elif part[0] == "if":
            out.extend(["if", part[1], part[2]])
            todo.extend([part[4], "else", part[3]])
        else:
            out.extend(leaf_lexemes(part))
    return out


def leaf_lexemes(leaf):
    """The lexemes of a leaf."""
    _, makes, links, watches, sends, end = leaf
    out = ["{"]
    for make in makes:
        out.extend(["make", make[0], make[1]] + filled_lexemes(make))
    for term in links:
        out.extend(["link"] + term_lexemes(term) + [";"])
    for term in watches:
        out.extend(["watch"] + term_lexemes(term) + [";"])
    for send in sends:
        out.extend(["send"] + term_lexemes(send[0]) + [send[1]] + filled_lexemes(send))
    if end[0] == "go":
        out.extend(["go", end[1]] + filled_lexemes(end))
    else:
        out.extend(list(end) + [";"])
    return out + ["}"]


def filled_lexemes(row):
    """The lexemes of the words and the terms at the positions 2 and 3 of a row, which end it."""
    return listed_words(row[2]) + listed_terms(row[3]) + [";"]


def tree_lexemes(tree):
    """The lexemes of the supervisors of a tree."""
    out = []
    todo = list(tree[::-1])
    while todo:
        part = todo.pop()
        if isinstance(part, str):
            out.append(part)
        elif part[0] == "slot":
            _, address, role, words, things = part
            out.extend(["slot", str(address), role] + listed_names(words) + listed_terms(things) + [";"])
        else:
            out.extend(["supervisor", part[1], part[2], str(part[3]), "{"])
            todo.append("}")
            todo.extend(part[4][::-1])
    return out


def turned_lexemes(row):
    """The lexemes of a member of the kinds or roles of a change behind the first word."""
    return [row[0], "to", row[1]] + filled_lexemes(row)


def row_lexemes(row):
    """The lexemes of a row of a change behind the first word."""
    (role, old, words), mode, marking, terms = row
    out = [role, old] + listed_names(words) + ["to", mode]
    return out + listed_names(marking) + listed_terms(terms) + [";"]

"""The forms of S1.11 as a grammar, and where a row of lexemes is first wrong by it.

This is written apart from the reader of the package: it knows nothing of its order of asking, but goes through all
ways in which lexemes can be the beginning of a form (as Earley's method does).
"""

import re

FORMS = """
BOOK = book { SORTS PRIMS PORTS REASONS }
SORTS = | SORT SORTS
SORT = sort NAME WORDLIST ;
WORDLIST = | NAME WORDLIST
PRIMS = | PRIM PRIMS
PRIM = prim NAME NUMBER ;
PORTS = | PORT PORTS
PORT = port NAME ;
REASONS = | REASON REASONS
REASON = reason NAME ;
EDITION = edition { KINDS ROLES SUPERVISORS }
KINDS = | KIND KINDS
KIND = kind NAME NAME MARKS NAMES ;
ROLES = | ROLE ROLES
ROLE = role NAME { MODES start MARKS NAMES BODY HANDLERS }
MODES = | MODE MODES
MODE = mode NAME MARKS NAMES [ NAMELIST ] ; | mode NAME MARKS NAMES [ NAMELIST ] heeds ;
HANDLERS = | HANDLER HANDLERS
HANDLER = on NAME NAME BODY
MARKS = ( ) | ( PAIRS )
PAIRS = NAME NAME | NAME NAME , PAIRS
NAMES = ( NAMELIST )
NAMELIST = | SOMENAMES
SOMENAMES = NAME | NAME , SOMENAMES
BODY = if NAME NAME BODY else BODY | { MAKES LINKS WATCHES SENDS END }
MAKES = | MAKE MAKES
MAKE = make NAME NAME WORDS TERMS ;
LINKS = | LINK LINKS
LINK = link TERM ;
WATCHES = | WATCH WATCHES
WATCH = watch TERM ;
SENDS = | SEND SENDS
SEND = send TERM NAME WORDS TERMS ;
END = go NAME WORDS TERMS ; | stop ; | fail NAME ;
WORDS = ( ) | ( SOMEWORDS )
SOMEWORDS = WORD | WORD , SOMEWORDS
WORD = NAME | $ NAME
TERMS = ( ) | ( SOMETERMS )
SOMETERMS = TERM | TERM , SOMETERMS
TERM = NAME | NAME TERMS
SUPERVISORS = | SUPERVISOR SUPERVISORS
SUPERVISOR = supervisor NAME NAME NUMBER { CHILDREN }
CHILDREN = | CHILD CHILDREN
CHILD = SUPERVISOR | slot NUMBER NAME NAMES TERMS ;
CHANGE = change { KINDROWS ROLEROWS ROWS }
KINDROWS = | KINDROW KINDROWS
KINDROW = kind NAME to NAME TURNED TERMS ;
ROLEROWS = | ROLEROW ROLEROWS
ROLEROW = role NAME to NAME TURNED TERMS ;
ROWS = | ROW ROWS
ROW = row NAME NAME NAMES to NAME NAMES TERMS ;
TURNED = ( ) | ( SOMETURNED )
SOMETURNED = TURNEDWORD | TURNEDWORD , SOMETURNED
TURNEDWORD = WORD | NAME [ TABLE ]
TABLE = | SOMETABLE
SOMETABLE = NAME : NAME | NAME : NAME , SOMETABLE
"""

RULES = {}
for _line in FORMS.strip().split("\n"):
    _head, _, _alternatives = _line.partition(" =")
    RULES[_head] = [tuple(alternative.split()) for alternative in _alternatives.split("|")]


def may_be_empty():
    """The heads that may stand for no lexeme at all."""
    found = set()
    while True:
        more = {head for head, rows in RULES.items() if any(all(part in found for part in row) for row in rows)}
        if more == found:
            return found
        found = more


EMPTY = may_be_empty()


def fits(part, lexeme):
    if part == "NAME":
        return lexeme[0].isalpha()
    if part == "NUMBER":
        return lexeme[0].isdigit()
    return part == lexeme


class Chart:
    """All ways to read lexemes as the beginning of a form: an item is (head, row, dot, where it began)."""

    def __init__(self, head):
        self.columns = []
        self.head = head
        self.add_column([(head, row, 0, 0) for row in RULES[head]])

    def add_column(self, items):
        at = len(self.columns)
        seen = set(items)
        todo = list(items)
        self.columns.append(seen)
        while todo:
            head, row, dot, origin = todo.pop()
            if dot == len(row):
                new = [(h, r, d + 1, o) for h, r, d, o in self.columns[origin] if d < len(r) and r[d] == head]
            elif row[dot] in RULES:
                new = [(row[dot], r, 0, at) for r in RULES[row[dot]]]
                if row[dot] in EMPTY:
                    new.append((head, row, dot + 1, origin))
            else:
                new = []
            for item in new:
                if item not in seen:
                    seen.add(item)
                    todo.append(item)

    def step(self, lexeme):
        """Reads one lexeme more, or returns False if no text of the form begins so."""
        items = [(h, r, d + 1, o) for h, r, d, o in self.columns[-1]
                 if d < len(r) and r[d] not in RULES and fits(r[d], lexeme)]
        if not items:
            return False
        self.add_column(items)
        return True

    def back_to(self, many):
        """Forgets all lexemes but the first so many."""
        del self.columns[many + 1:]

    def is_whole(self):
        return any(h == self.head and d == len(r) and o == 0 for h, r, d, o in self.columns[-1])


def lexemes(text):
    """The pairs (place, lexeme) of a text, up to the first sign that begins none, and the place of that or None."""
    found = []
    at = 0
    while at < len(text):
        if text[at] in " \n":
            at += 1
            continue
        match = re.compile(r"[a-z][a-z0-9]*|0|[1-9][0-9]*|[()\[\]{},;:$]").match(text, at)
        if not match or (match[0][0].isalpha() and len(match[0]) > 12):
            return found, at
        found.append((at, match[0]))
        at = match.end()
    return found, None


def wrong_place(head, text, chart=None):
    """The first wrong place of a text, or None. A chart may be passed on, whose first lexemes are those of the text."""
    found, stop = lexemes(text)
    chart = chart or Chart(head)
    for place, lexeme in found[len(chart.columns) - 1:]:
        if not chart.step(lexeme):
            return place
    if stop is not None:
        return stop
    return None if chart.is_whole() else len(text)

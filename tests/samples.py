"""A book, two editions and a change that the tests share, and short ways to write their parts."""

from movedactors.books import Book
from movedactors.changes import Change
from movedactors.classes import Classes
from movedactors.editions import Edition
from movedactors.errors import UnknownName
from movedactors.meanings import Meaning
from movedactors.solved import Solved


def var(name):
    return ("var", name)


def of(primitive, *terms):
    return ("of", primitive, terms)


def word(w):
    return ("word", w)


def mark(m):
    return ("mark", m)


def go(mode, words=(), terms=()):
    return ("go", mode, words, terms)


def leaf(end, makes=(), links=(), watches=(), sends=()):
    return ("do", makes, links, watches, sends, end)


def field(x):
    return ("var", ("field", x))


def given(x):
    return ("var", ("given", x))


def reg(x):
    return ("var", ("register", x))


SELF = ("var", ("self",))

BOOK_PARTS = (
    (("color", ("red", "green", "blue")), ("size", ("small", "big"))),
    (("nil", 0), ("up", 1), ("pair", 2)),
    ("main", "side"),
    ("bad", "worse"),
)

OLD_KINDS = (
    ("put", "main", (("c", "color"), ("y", "why")), ("a", "b")),
    ("ask", "side", (), ("who",)),
    ("tick", "main", (), ()),
)

PUT_BODY = (
    "if", "c", "red",
    leaf(
        go("idle", (word("green"),), (var("x"), of("pair", var("z"), var("k")))),
        makes=(
            ("k", "cell", (mark("r"),), (of("pair", var("x"), var("m")),)),
            ("m", "kid", (), ()),
        ),
        links=(var("k"), of("up", var("a"))),
        watches=(var("self"),),
        sends=(
            (var("k"), "put", (mark("c"), mark("y")), (var("x"), var("m"))),
            (of("nil"), "ask", (), (of("up", var("b")),)),
        ),
    ),
    (
        "if", "y", "bad",
        leaf(("stop",)),
        leaf(
            ("fail", "worse"),
            makes=(("k", "kid", (), ()),),
            sends=((var("a"), "tick", (), ()),),
        ),
    ),
)

GONE_BODY = (
    "if", "why", "ended",
    leaf(go("busy", (), (of("up", var("who")),)), links=(var("who"),)),
    leaf(("fail", "bad")),
)

START_BODY = (
    "if", "p", "red",
    leaf(go("idle", (mark("p"),), (var("i"), of("up", var("i"))))),
    leaf(go("busy", (), (of("pair", var("self"), var("i")),))),
)

CELL = (
    "cell",
    (
        ("idle", (("r", "color"),), ("x", "z"), ("main", "gone"), True),
        ("busy", (), ("x",), ("side",), False),
    ),
    ((("p", "color"),), ("i",), START_BODY),
    (
        ("idle", "put", PUT_BODY),
        ("idle", "tick", leaf(go("idle", (mark("r"),), (var("z"), var("x"))))),
        ("idle", "gone", GONE_BODY),
        ("busy", "ask", leaf(go("idle", (word("blue"),), (var("who"), var("x"))))),
    ),
)

KID = ("kid", (("only", (), (), (), False),), ((), (), leaf(go("only"))), ())

OLD_TREE = (
    ("supervisor", "top", "all", 2, (
        ("slot", 1, "cell", ("red",), (of("nil"),)),
        ("supervisor", "low", "one", 0, (("slot", 4, "kid", (), ()),)),
        ("slot", 7, "cell", ("blue",), (of("pair", of("nil"), of("up", of("nil"))),)),
    )),
    ("supervisor", "rest", "behind", 5, (("slot", 2, "kid", (), ()),)),
)

NEW_KINDS = (
    ("set", "main", (("d", "color"), ("s", "size")), ("a",)),
    ("query", "side", (), ("v", "t")),
    ("beat", "main", (("y", "why"),), ()),
)

NEW_CELL = (
    "unit",
    (
        ("rest", (("q", "size"),), ("u",), ("main", "gone"), False),
        ("work", (), ("u", "w"), ("side", "gone"), True),
    ),
    ((("p", "size"), ("o", "color")), ("i", "j"), leaf(go("work", (), (var("i"), var("j"))))),
    (
        ("rest", "set", leaf(("stop",))),
        ("rest", "beat", leaf(go("work", (), (var("u"), var("self"))))),
        ("rest", "gone", leaf(("stop",))),
        ("work", "query", leaf(go("rest", (word("big"),), (of("pair", var("u"), var("v")),)))),
        ("work", "gone", leaf(("fail", "bad"))),
    ),
)

NEW_TREE = (
    ("supervisor", "top", "one", 1, (
        ("slot", 1, "unit", ("small", "red"), (of("nil"), of("nil"))),
        ("supervisor", "low", "one", 3, (("slot", 4, "kid", (), ()),)),
        ("slot", 7, "unit", ("big", "blue"), (of("nil"), of("up", of("nil")))),
    )),
    ("supervisor", "rest", "all", 5, (("slot", 2, "kid", (), ()),)),
)

KIND_ROWS = (
    ("put", "set", (mark("c"), ("table", "y", (
        ("ended", "small"), ("closed", "big"), ("bad", "small"), ("worse", "big")))),
        (of("pair", field("b"), field("a")),)),
    ("ask", "query", (), (field("who"), of("up", field("who")))),
    ("tick", "beat", (word("closed"),), ()),
)

ROLE_ROWS = (
    ("cell", "unit", (("table", "p", (("red", "small"), ("green", "big"), ("blue", "big"))), mark("p")),
     (given("i"), of("up", given("i")))),
    ("kid", "kid", (), ()),
)

ROWS = (
    (("cell", "idle", ("red",)), "rest", ("big",), (of("pair", reg("x"), SELF),)),
    (("cell", "busy", ()), "work", (), (reg("x"), of("nil"))),
    (("kid", "only", ()), "only", (), ()),
)


def book():
    return Book(*BOOK_PARTS)


def old_edition():
    return Edition(book(), OLD_KINDS, (CELL, KID), OLD_TREE)


def new_edition():
    return Edition(book(), NEW_KINDS, (NEW_CELL, KID), NEW_TREE)


def change():
    return Change(old_edition(), new_edition(), KIND_ROWS, ROLE_ROWS, ROWS)


def replaced(whole, path, part):
    """The value that whole becomes when another part stands at a path; lists stay lists."""
    if path == ():
        return part
    members = list(whole)
    members[path[0]] = replaced(members[path[0]], path[1:], part)
    return members if isinstance(whole, list) else tuple(members)


def part_of(whole, path):
    for k in path:
        whole = whole[k]
    return whole


def paths_of(whole, path=()):
    """The paths of all that is inside a value of tuples, each before those of its members."""
    found = []
    if isinstance(whole, tuple):
        for k, member in enumerate(whole):
            found.append(path + (k,))
            found.extend(paths_of(member, path + (k,)))
    return found


def chain(primitive, start, many):
    """A term that is nested many times."""
    term = start
    for _ in range(many):
        term = ("of", primitive, (term,))
    return term


def nested(deep):
    """A value that may stand where anything may, nested so deep, of lists, tuples and dicts in turn."""
    value = "x"
    for k in range(deep):
        value = ([value], (value,), {"a": value})[k % 3]
    return value


class Same:
    """Compares terms and plain values without calls that are as deep as the values."""

    @staticmethod
    def same(one, other):
        todo = [(one, other)]
        while todo:
            left, right = todo.pop()
            if isinstance(left, tuple) and isinstance(right, tuple):
                if len(left) != len(right):
                    return False
                todo.extend(zip(left, right))
            elif type(left) is not type(right) or left != right:
                return False
        return True


def anythings():
    """Values of all kinds but tuples that may stand where anything may stand.

    None of them is right at any place of a book, an edition or a change, but a list where a list is expected.
    """
    return [
        None, -1, -10 ** 39, "", "Red", "a b", "abcdefghijklm", "1a", [], {}, {"a": 1}, [()],
        book(), old_edition(), change(), nested(58), nested(60), Meaning({"up": [((1,), 2)]}), Solved(["x"], []),
        Classes([], []), UnknownName("x"),
    ]


def deep_tuple(deep):
    """A tuple of one member that is nested so deep."""
    value = ()
    for _ in range(deep):
        value = (value,)
    return value

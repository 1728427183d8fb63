"""A chain of three editions, which systems of the tests run, and systems of it."""

from movedactors.meanings import Meaning
from movedactors.reader import read_book, read_change, read_edition
from movedactors.systems import System

BOOK = read_book("""
    book { sort color red green; sort size small big; prim nil 0; prim up 1; prim pair 2;
           port main; port side; reason bad; reason worse; }
""")

# A cell makes, links, watches and sends in one mode, and heeds there; in another one it is deaf.
FIRST = read_edition(BOOK, """
    edition {
        kind put main (c color) (a);
        kind ask side () (who);
        kind both main (c color, s size) (a, b);
        role cell {
            mode idle (r color) (x) [main, gone] heeds;
            mode busy () (x, y) [side];
            start (p color) (i) if p red { go idle ($p) (i); } else { go busy () (i, up(self)); }
            on idle put if c red {
                make k cell (red) (a);
                make m kid () ();
                link k; link a; watch m; watch x; watch self;
                send x put ($r) (up(k));
                send m ask () (self);
                go idle (green) (pair(x, m));
            } else if r red { send a ask () (x); stop; } else { make k kid () (); send k ask () (a); fail bad; }
            on idle both { send a both ($c, $s) (b, self); go busy () (b, a); }
            on idle gone if why ended { go idle ($r) (who); } else { fail worse; }
            on busy ask { link who; go idle (red) (y); }
        }
        role kid {
            mode only () () [side];
            start () () { go only () (); }
            on only ask { send who ask () (self); go only () (); }
        }
        supervisor top one 2 {
            slot 1 cell (red) (nil());
            supervisor low all 1 { slot 2 cell (green) (up(nil())); slot 5 kid () (); }
            slot 3 kid () ();
        }
    }
""")

SECOND = read_edition(BOOK, """
    edition {
        kind set main (s size, d color) (b);
        kind query side () (u, v);
        kind more main () (a);
        role box {
            mode rest (q color) (w) [main] heeds;
            mode work () (w) [side, gone] heeds;
            start (p size, o color) (i) { go rest ($o) (up(i)); }
            on rest set { send b query () (w, self); go rest ($d) (b); }
            on rest more { stop; }
            on work query { go rest (green) (v); }
            on work gone { go work () (who); }
        }
        role kid {
            mode only () () [side];
            start () () { go only () (); }
            on only query { stop; }
        }
        supervisor top all 1 {
            slot 1 box (small, red) (pair(nil(), nil()));
            supervisor low behind 2 { slot 2 box (big, green) (nil()); slot 5 kid () (); }
            slot 3 kid () ();
        }
    }
""")

THIRD = read_edition(BOOK, """
    edition {
        kind put main (d color) (b, c);
        kind ask side () (v);
        kind none main () (t);
        role box {
            mode rest (q color) (w) [main];
            start (o color) (i, j) { go rest ($o) (pair(i, j)); }
            on rest put { go rest ($d) (c); }
            on rest none { fail bad; }
        }
        role kid {
            mode only () () [side];
            start () () { go only () (); }
            on only ask { make k box (red) (v, self); go only () (); }
        }
        supervisor top one 0 {
            slot 1 box (red) (nil(), nil());
            supervisor low one 1 { slot 2 box (green) (nil(), up(nil())); slot 5 kid () (); }
            slot 3 kid () ();
        }
    }
""")

# What becomes of ask has two fields of which one is no old field, so it has no elder form; of both, b is lost.
TO_SECOND = read_change(FIRST, SECOND, """
    change {
        kind put to set (big, $c) (a);
        kind ask to query () (who, up(who));
        kind both to set ($s, $c) (a);
        role cell to box (p[red : small, green : big], $p) (up(i));
        role kid to kid () ();
        row cell idle (red) to rest (red) (pair(x, self));
        row cell busy () to work () (y);
        row kid only () to only () ();
    }
""")

TO_THIRD = read_change(SECOND, THIRD, """
    change {
        kind set to put ($d) (b, nil());
        kind query to ask () (v);
        kind more to none () (a);
        role box to box ($o) (i, up(i));
        role kid to kid () ();
        row box rest (red) to rest (red) (w);
        row box rest (green) to rest (red) (nil());
    }
""")

MEANING = Meaning({
    "nil": [((), 7)],
    "up": [((k,), 100 + k) for k in range(1, 60)],
    "pair": [((k, j), 10000 + 100 * k + j) for k in range(1, 60) for j in range(1, 60)],
})

# The first actors of the slots, in the first edition, and one more.
ACTORS = (
    (1, 0, "cell", ("red",), (11,)),
    (2, 0, "cell", ("green",), (12,)),
    (3, 0, "kid", (), ()),
    (5, 0, "kid", (), ()),
    (8, 0, "cell", ("red",), (1,)),
)


def system(actors=ACTORS, supply=(20, 4), first=0):
    return System(MEANING, [FIRST, SECOND, THIRD], [TO_SECOND, TO_THIRD], supply, actors, first=first)


def lone(actors=ACTORS, supply=()):
    """A system that has the first edition alone."""
    return System(MEANING, [FIRST], [], supply, actors)

"""movedactors.fitting: fitted terms for made-up worths, and few histories that leave a register without one."""

import random
import unittest

from movedactors.fitting import Fitting
from samples import SELF, of, var
from test_defining import plain_fitted


def some_term(chosen, deep):
    roll = chosen.randrange(6)
    if deep == 0 or roll < 2:
        return chosen.choice([SELF, var(("given", "i")), var(("given", "j")), of("nil")])
    if roll < 4:
        return of("up", some_term(chosen, deep - 1))
    return of("pair", some_term(chosen, deep - 1), some_term(chosen, deep - 1))


def like(chosen, term):
    """A term that is like another one but for some parts."""
    if chosen.randrange(8) == 0:
        return some_term(chosen, 1)
    if term[0] == "var":
        return term
    return ("of", term[1], tuple(like(chosen, member) for member in term[2]))


def parts(term):
    return [term] + [part for member in (term[2] if term[0] == "of" else ()) for part in parts(member)]


def rows_of(chosen):
    """What some holders and one register hold behind several histories."""
    many = chosen.randrange(1, 7)
    holders = [("register", x) for x in "xyz"[:chosen.randrange(4)]] + [("self",)]
    begun = some_term(chosen, 4)
    registers = [like(chosen, begun) for _ in range(many)]
    rows = []
    places = [chosen.randrange(len(parts(begun))) for _ in holders]
    for register in registers:
        known = parts(register)
        rows.append(tuple(known[min(place, len(known) - 1)] if chosen.randrange(5) else some_term(chosen, 2)
                          for place in places[:-1]) + (SELF,))
    return holders, rows, [(register,) for register in registers]


class Fits(unittest.TestCase):
    def test_chosen(self):
        chosen = random.Random(140)
        seen = {}
        for _ in range(6000):
            holders, rows, registers = rows_of(chosen)
            fitting = Fitting(holders, rows, registers)
            worths = [register[0] for register in registers]
            told = plain_fitted(rows, holders, worths)
            self.assertEqual(fitting.terms(), [told])
            if told is None:
                few = fitting.unfit(0)
                self.assertEqual(few, sorted(set(few)))
                self.assertLessEqual(len(few), len(holders) + 1)
                self.assertIsNone(plain_fitted([rows[k] for k in few], holders, [worths[k] for k in few]))
                seen[len(few)] = seen.get(len(few), 0) + 1
            else:
                seen[told[0]] = seen.get(told[0], 0) + 1
        for told in (1, 2, 3, 4, "var", "of"):
            self.assertGreater(seen.get(told, 0), 2, seen)


if __name__ == "__main__":
    unittest.main()

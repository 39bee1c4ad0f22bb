"""A slow page that makes all its sheets anew after each call, to hold the program's answers against.

It knows nothing of the package: cells are (x, y), fractions are fractions.
"""

from fractions import Fraction
from math import floor

FORMS = {0: "", 1: "an", 2: "a", 3: "a", 4: "axy", 5: "an", 6: "aa", 7: "aa", 8: "aa", 9: "aaa"}


def near(fraction):
    return floor(fraction + Fraction(1, 2))


def right_effect(effect, ahead):
    if not effect or effect[0] not in FORMS or len(effect) - 1 != len(FORMS[effect[0]]):
        return False
    limits = {"a": ahead - 1, "n": 255, "x": 4294967295, "y": 4294967295}
    return all(number <= limits[sign] for sign, number in zip(FORMS[effect[0]], effect[1:]))


class SlowPage:
    def __init__(self):
        self.page(1, 1)

    def page(self, w, h):
        if w not in range(1, 7) or h not in range(1, 7):
            return [-1]
        self.w, self.h = w, h
        self.places = [(x, y) for y in range(h) for x in range(w)]
        self.effects, self.sheets, self.unseen = [], [], []
        return [0]

    def needed(self, k, place):
        effect, (x, y) = self.effects[k], place
        if effect[0] == 3:
            return [(effect[1], other) for other in self.places if abs(other[0] - x) < 2 and abs(other[1] - y) < 2]
        if effect[0] == 4:
            return [(effect[1], ((x - effect[2]) % self.w, (y - effect[3]) % self.h))]
        return [(told, place) for sign, told in zip(FORMS[effect[0]], effect[1:]) if sign == "a"]

    def made(self, k):
        kind, *told = self.effects[k]
        if kind == 0:
            return dict(self.sheets[k])
        by = {
            1: lambda a: min(255, a + told[1]),
            2: lambda a: 255 - a,
            3: lambda *around: near(Fraction(sum(around), len(around))),
            4: lambda a: a,
            5: lambda a: 255 * (a >= told[1]),
            6: lambda a, b: max(a, b),
            7: lambda a, b: near(Fraction(a + b, 2)),
            8: lambda a, b: abs(a - b),
            9: lambda a, b, m: a if m >= 128 else b,
        }[kind]
        return {place: by(*[self.sheets[s][c] for s, c in self.needed(k, place)]) for place in self.places}

    def all_anew(self, k, before):
        """Makes all anew and answers what sheet k changed and what that touched."""
        for sheet in range(len(self.sheets)):
            self.sheets[sheet] = self.made(sheet)
        changed = {(s, c) for s in range(len(before)) for c in self.places if before[s][c] != self.sheets[s][c]}
        for s, c in changed:
            self.unseen[s].add(c)
        touched = [(s, c) for s in range(k + 1, len(before)) for c in self.places if changed & set(self.needed(s, c))]
        return [len([1 for s, c in changed if s == k]), len(touched)]

    def sheet(self, effect):
        if len(self.sheets) > 9:
            return [-5]
        if not right_effect(effect, len(self.sheets)):
            return [-3]
        self.effects.append(effect)
        self.sheets.append({place: 0 for place in self.places})
        self.sheets[-1] = self.made(len(self.sheets) - 1)
        self.unseen.append(set(self.places))
        return [len(self.sheets) - 1]

    def dot(self, k, x, y, n):
        if n < 256 and (x, y) not in self.places:
            return [-1]
        return self.box(k, x, y, 1, 1, n)

    def box(self, k, x, y, u, v, n):
        if n > 255:
            return [-3]
        if k >= len(self.sheets):
            return [-2]
        if self.effects[k][0] != 0:
            return [-6]
        before = [dict(sheet) for sheet in self.sheets]
        for place in self.places:
            if x <= place[0] < x + u and y <= place[1] < y + v:
                self.sheets[k][place] = n
        return self.all_anew(k, before)

    def effect(self, k, effect):
        if k >= len(self.sheets):
            return [-2]
        if not right_effect(effect, k):
            return [-3]
        before = [dict(sheet) for sheet in self.sheets]
        self.effects[k] = effect
        return self.all_anew(k, before)

    def cells(self, k):
        if k >= len(self.sheets):
            return [-2]
        return [self.sheets[k][place] for place in self.places]

    def cell(self, k, x, y):
        if k >= len(self.sheets):
            return [-2]
        return [self.sheets[k].get((x, y), -1)]

    def look(self, k):
        if k >= len(self.sheets):
            return [-2]
        told = [(c, self.sheets[k][place]) for c, place in enumerate(self.places) if place in self.unseen[k]]
        self.unseen[k] = set()
        return [len(told)] + [number for pair in told for number in pair]

    def needs(self, k, x, y):
        if k >= len(self.sheets):
            return [-2]
        if (x, y) not in self.places:
            return [-1]
        told = self.needed(k, (x, y))
        return [len(told)] + [number for s, place in told for number in (s, self.places.index(place))]

    def list_sheets(self):
        told = [len(self.sheets)]
        for k, numbers in enumerate(self.sheets):
            told += [FORMS[self.effects[k][0]].count("a"), len(self.unseen[k]), sum(numbers.values())]
        return told

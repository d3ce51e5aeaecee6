"""Which kinds of worlds there may be in the models that meet some conditions.

A world's kind is which of the letters, [] formulas and <> formulas hold at it; what else holds comes of these. So
there are few kinds, and all can be gone through, while there are models without end. The bits of a kind's number tell
what holds there. Several kinds together are a whole number with a bit for each.
"""

from seenworlds.frames import ALL_CONDITIONS, SEES_BACK, SEES_ITSELF, SEES_ON, SEES_ONE, SEE_EACH_OTHER
from seenworlds.joining import joined
from seenworlds.reading import BOX, DIAMOND, is_atom

# Conditions, and what is met wherever they are: 2 and 16 bring 8; 4 and 8 bring 16; 8 and 16 bring 4. Gone through
# once in this order nothing is missed that view must know of.
BROUGHT = ((18, 8), (12, 16), (24, 4))


def with_those_brought(conditions):
    whole = conditions
    for given, brought in BROUGHT:
        if (whole & given) == given:
            whole = whole | brought
    return whole


def has(kinds, kind):
    return ((kinds >> kind) & 1) == 1


def together(kinds):
    return sum([1 << kind for kind in kinds])


def listed(kinds):
    return [kind for kind in range(kinds.bit_length()) if has(kinds, kind)]


def kinds_where_held(parts, size):
    every = (1 << size) - 1
    held = []
    atoms = 0
    for part in parts:
        if is_atom(part):
            held.append(together([kind for kind in range(size) if (kind >> atoms) & 1]))
            atoms = atoms + 1
        else:
            held.append(joined(part, held, every))
    return held


# <>F says that a world is seen where F holds, []F that none is seen where F doesn't. Both are told as one search:
# the finders see one of the sought, all other kinds see none.
class Search:
    def __init__(self, sought, finders):
        self.sought = sought
        self.finders = finders


def searches_of(parts, held, every):
    searches = []
    for place, part in enumerate(parts):
        if part[0] == DIAMOND:
            searches.append(Search(held[part[1]], held[place]))
        elif part[0] == BOX:
            searches.append(Search(every ^ held[part[1]], every ^ held[place]))
    return searches


class Kinds:
    def __init__(self, parts):
        self.size = 1 << len([part for part in parts if is_atom(part)])
        self.every = (1 << self.size) - 1
        self.held = kinds_where_held(parts, self.size)
        self.searches = searches_of(parts, self.held, self.every)

    # All that a world of this kind can see in any model that meets the conditions. Where each kind sees all that it
    # can, 4, 8 and 16 are met by that alone (16 if 4 is asked too), so no narrower view need be tried.
    def view(self, kind, conditions):
        seen = self.every
        for search in self.searches:
            finds = has(search.finders, kind)
            if not finds:
                seen = seen & (self.every ^ search.sought)
            if not finds and conditions & SEES_ON:
                seen = seen & (self.every ^ search.finders)
            if finds and conditions & SEE_EACH_OTHER:
                seen = seen & search.finders
            if conditions & SEES_BACK and has(search.sought, kind):
                seen = seen & search.finders
        return seen

    # Whether these are enough for a world of this kind to see.
    def is_served(self, kind, seen, conditions):
        if conditions & SEES_ONE and seen == 0:
            return False
        return all([(search.sought & seen) != 0 for search in self.searches if has(search.finders, kind)])

    # Without those that can't see themselves, if they must.
    def first_kinds(self, conditions):
        kinds = self.every
        if conditions & SEES_ITSELF:
            for search in self.searches:
                kinds = kinds & ((self.every ^ search.sought) | search.finders)
        return kinds

    # Takes kinds away until each of the rest is served by the rest: that is a model with a world of each kind.
    def lasting(self, conditions):
        views = [self.view(kind, conditions) for kind in range(self.size)]
        left = -1
        kept = self.first_kinds(conditions)
        while left != kept:
            left = kept
            kept = together([kind for kind in listed(left) if self.is_served(kind, views[kind] & left, conditions)])
        return kept

    # Each once, with 0 among them for a world that sees none.
    def all_clusters(self):
        inner = self.lasting(ALL_CONDITIONS)
        return [0] + sorted(set([self.view(kind, ALL_CONDITIONS) & inner for kind in listed(inner)]))

    # Where two that one sees see each other, what lies behind a world that sees any is a cluster: all of it sees all
    # of it, as if every condition were asked. The world itself may lie outside, and see only some of the cluster.
    def near_clusters(self, conditions):
        clusters = self.all_clusters()
        kept = []
        for kind in range(self.size):
            seen = self.view(kind, conditions)
            if any([self.is_served(kind, seen & cluster, conditions) for cluster in clusters]):
                kept.append(kind)
        return together(kept)

    # The kinds of which there is a world in some model that meets the conditions.
    def that_may_be(self, conditions):
        whole = with_those_brought(conditions)
        if whole & SEE_EACH_OTHER and not whole & SEES_ON:
            return self.near_clusters(whole)
        return self.lasting(whole)


def may_hold(formula, conditions):
    kinds = Kinds(formula.parts)
    return (kinds.that_may_be(conditions) & kinds.held[formula.place]) != 0


# The other formula has the parts of the first too, at the same places.
def follows_from(formula, other, conditions):
    kinds = Kinds(other.parts)
    against = kinds.held[formula.place] & (kinds.every ^ kinds.held[other.place])
    return (kinds.that_may_be(conditions) & against) == 0

"""The widest kinds of pieces, or the first call for which no kind can be."""

from widekind.nodes import Nodes
from widekind.pieces import Layout


# ("kinds", kinds) with the widest kinds of all pieces, for the paths in order, their blanks counted anew through the
# list; or ("clash", path) with the path to the first call for which no kind can be, as a list.
def found_kinds(outside, piece):
    finder = Finder(outside, piece)
    clash = finder.clash()
    if clash is not None:
        return clash
    return ("kinds", finder.table.told([finder.nodes[place] for place in range(len(finder.nodes))]))


# ("kind", kind) with the widest kind of the piece, its blanks counted anew; or the clash.
def widest(outside, piece):
    finder = Finder(outside, piece)
    clash = finder.clash()
    if clash is not None:
        return clash
    return ("kind", finder.table.told([finder.nodes[0]])[0])


# `nodes` has the nodes of the kinds of pieces by their places, `handed` those of what forms are handed.
# A wide kind, of a let by its place or of an outside name by its word, is its node and those of the nodes in it
# that are made anew for each name. `calls` has the nodes that were to be linked at each call, and its place.
class Finder:

    def __init__(self, outside, piece):
        self.outside = outside
        self.layout = Layout(piece)
        self.layout.check_names(outside)
        self.table = Nodes()
        self.nodes = {}
        self.handed = {}
        self.wide = {}
        self.calls = []
        self.trusted = 1000

    # Takes all turns; the clash, or None.
    def clash(self):
        for turn in self.layout.turns:
            if not self.taken(turn) or not self.looked_through():
                return self.first_clash()
        return None if self.table.sound(self.calls) else self.first_clash()

    # To look at each call whether a kind would lie in itself could take a walk through all nodes each time. So that is
    # done when there are twice as many as the last time, and the first call to blame is looked for afterwards.
    def looked_through(self):
        if len(self.table.forms) < self.trusted:
            return True
        self.trusted = 2 * len(self.table.forms)
        return self.table.sound(self.calls)

    # Not all calls so far can be made: by halves, the first that can't with those ahead of it.
    def first_clash(self):
        good = 0
        bad = len(self.calls)
        while bad - good > 1:
            middle = (good + bad) // 2
            if self.table.linked_anew(self.calls[:middle]):
                good = middle
            else:
                bad = middle
        return ("clash", self.layout.path_to(self.calls[bad - 1][2]))

    # False where it is seen that not all calls so far can be made.
    def taken(self, turn):
        if turn[0] == "enter":
            return self.entered(turn[1])
        if turn[0] == "done":
            return self.dealt_with(turn[1])
        return True

    def entered(self, place):
        level = self.layout.levels[place]
        if self.layout.pieces[place][0] == "form":
            self.handed[place] = self.table.added(("blank",), level)
            return True
        # A blank in the kind of a let's `one` is kept just where it came from outside of that, by names that can be
        # used there, or was linked with something that did: so its level tells.
        one = self.nodes[self.layout.inside[place][0]]
        free = self.table.freed(one, level)
        self.wide[place] = (one, free)
        return free is not None

    def dealt_with(self, place):
        sort = self.layout.pieces[place][0]
        parts = [self.nodes[each] for each in self.layout.inside[place]]
        level = self.layout.levels[place]
        if sort == "call":
            return self.called(place, parts, level)
        if sort == "number":
            self.nodes[place] = self.table.added(("number",))
        elif sort == "name":
            self.nodes[place] = self.named(place, level)
        elif sort == "pair":
            self.nodes[place] = self.table.added(("pair", parts[0], parts[1]), level)
        elif sort == "form":
            self.nodes[place] = self.table.added(("to", self.handed[place], parts[0]), level)
        else:
            self.nodes[place] = parts[1]
        return True

    def called(self, place, parts, level):
        self.nodes[place] = self.table.added(("blank",), level)
        goal = self.table.added(("to", parts[1], self.nodes[place]), level)
        self.calls.append((parts[0], goal, place))
        return self.table.linked(parts[0], goal)

    def named(self, place, level):
        owner = self.layout.owners[place]
        if owner in self.handed:
            return self.handed[owner]
        wide = self.outside_wide(self.layout.pieces[place][1]) if owner is None else self.wide[owner]
        return self.table.copied(wide[0], wide[1], level)

    def outside_wide(self, word):
        if word not in self.wide:
            node = self.table.laid(self.outside[word], {}, 2)
            self.wide[word] = (node, self.table.freed(node, 1))
        return self.wide[word]

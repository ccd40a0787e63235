"""Whether kinds for all pieces in a piece stand."""

from widekind.nodes import Nodes
from widekind.pieces import Layout


# True where the kinds, one for each path in order, stand for the piece, else False.
def holds(outside, piece, kinds):
    layout = Layout(piece)
    layout.check_names(outside)
    standing = Standing(outside, layout, kinds)
    for turn in layout.turns:
        if not standing.taken(turn):
            return False
    return True


# `nodes` has the nodes of the kinds by places: kinds that are the same have one node.
# `kept` has, for each form and let, the blanks that it keeps for the lets at which its name can be used;
# `counts` how many of the names that can be used now keep a blank.
class Standing:

    def __init__(self, outside, layout, kinds):
        self.outside = outside
        self.layout = layout
        self.table = Nodes()
        self.known = {}
        self.nodes = [self.table.laid(kind, self.known) for kind in kinds]
        self.kept = {None: {}}
        self.counts = {}

    # False where it is seen that the kinds don't stand.
    def taken(self, turn):
        place = turn[1]
        if turn[0] == "done":
            return self.stands(place)
        if turn[0] == "leave":
            self.counted(place, -1)
            self.counted(self.layout.hidden[place], 1)
            return True
        # The body of a form is walked only if it has a kind to hand its names.
        if self.layout.pieces[place][0] == "form" and self.form_at(place)[0] != "to":
            return False
        self.kept[place] = self.kept_by(place)
        self.counted(self.layout.hidden[place], -1)
        self.counted(place, 1)
        return True

    def counted(self, place, change):
        for blank in self.kept[place]:
            self.counts[blank] = self.counts.get(blank, 0) + change

    def kept_by(self, place):
        kept = {}
        if self.layout.pieces[place][0] == "form":
            for blank in self.table.blanks(self.form_at(place)[1]):
                kept[blank] = True
        else:
            for blank in self.table.blanks(self.nodes[self.layout.inside[place][0]]):
                if self.counts.get(blank, 0) > 0:
                    kept[blank] = True
        return kept

    def form_at(self, place):
        return self.table.forms[self.nodes[place]]

    def stands(self, place):
        sort = self.layout.pieces[place][0]
        parts = [self.nodes[each] for each in self.layout.inside[place]]
        form = self.form_at(place)
        if sort == "number":
            return form == ("number",)
        if sort == "name":
            return self.name_stands(place)
        if sort == "pair":
            return form == ("pair", parts[0], parts[1])
        if sort == "form":
            return form[2] == parts[0]
        if sort == "call":
            return self.table.forms[parts[0]] == ("to", parts[1], self.nodes[place])
        return self.nodes[place] == parts[1]

    def name_stands(self, place):
        node = self.nodes[place]
        owner = self.layout.owners[place]
        if owner is None:
            wide = self.table.laid(self.outside[self.layout.pieces[place][1]], self.known)
            return self.table.becomes(wide, node, {})
        if self.layout.pieces[owner][0] == "form":
            return node == self.form_at(owner)[1]
        return self.table.becomes(self.nodes[self.layout.inside[owner][0]], node, self.kept[owner])

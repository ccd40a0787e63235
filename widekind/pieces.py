"""Pieces: the paths in them, what each name belongs to, and where it can be used.

Pieces may lie deep in one another, so nothing here calls itself. A place is a
whole number: how many paths come ahead of the one that leads to a piece.
"""

from widekind.errors import NoName


# The paths to all pieces in a piece, each ahead of those in it, those in a first piece ahead of those in the second.
def paths(piece):
    layout = Layout(piece)
    found = [()]
    for place in range(1, len(layout.pieces)):
        found.append(found[layout.around[place]] + (layout.steps[place],))
    return found


# The pieces straight within a piece, the first ahead of the second.
def inner(piece):
    if piece[0] in ("form", "let"):
        return piece[2:]
    if piece[0] in ("pair", "call"):
        return piece[1:]
    return ()


# By places: the pieces; the place of the piece around each, and the step that leads from there to it;
# the places of those straight within each; and its level, 1 and one more for each let in whose `one` it lies.
# The turns tell in order when a piece is done with, and when the name of a form or let begins to be usable and ends.
# `owners` has, for each name, the place of the form or let to which it belongs, or None;
# `hidden` has, for each form and let, that to which its word belongs just outside, or None.
class Layout:

    def __init__(self, piece):
        self.pieces = []
        self.around = []
        self.steps = []
        self.inside = []
        self.levels = []
        self.turns = []
        self.owners = {}
        self.hidden = {}
        self.lay_pieces(piece)
        self.lay_turns()
        self.lay_names()

    def lay_pieces(self, piece):
        waiting = [(piece, None, 0, 1)]
        while waiting:
            each = waiting.pop()
            place = len(self.pieces)
            self.pieces.append(each[0])
            self.around.append(each[1])
            self.steps.append(each[2])
            self.levels.append(each[3])
            self.inside.append([])
            if each[1] is not None:
                self.inside[each[1]].append(place)
            for step, part in reversed(list(enumerate(inner(each[0])))):
                deeper = 1 if each[0][0] == "let" and step == 0 else 0
                waiting.append((part, place, step, each[3] + deeper))

    def lay_turns(self):
        waiting = [("begin", 0)]
        while waiting:
            turn = waiting.pop()
            if turn[0] == "begin":
                waiting.extend(list(reversed(self.turns_of(turn[1]))))
            else:
                self.turns.append(turn)

    def turns_of(self, place):
        turns = [("begin", each) for each in self.inside[place]]
        if self.pieces[place][0] in ("form", "let"):
            # The name can be used in the last of the pieces straight within alone.
            turns.insert(len(turns) - 1, ("enter", place))
            turns.append(("leave", place))
        turns.append(("done", place))
        return turns

    def lay_names(self):
        usable = {}
        for turn in self.turns:
            place = turn[1]
            piece = self.pieces[place]
            if turn[0] == "enter":
                self.hidden[place] = usable.get(piece[1])
                usable[piece[1]] = place
            elif turn[0] == "leave":
                usable[piece[1]] = self.hidden[place]
            elif piece[0] == "name":
                self.owners[place] = usable.get(piece[1])

    # Refuses the first outside name that isn't known.
    def check_names(self, outside):
        for place in self.owners:
            word = self.pieces[place][1]
            if self.owners[place] is None and word not in outside:
                raise NoName(f"the outside name {word} is not known")

    # The path to the piece at a place, as a list.
    def path_to(self, place):
        path = []
        while self.around[place] is not None:
            path.append(self.steps[place])
            place = self.around[place]
        path.reverse()
        return path

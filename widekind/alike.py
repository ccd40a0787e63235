"""Two kinds made alike, and whether a kind is another with something put in."""

from widekind.nodes import Nodes


# The widest kind that both become when the same is put into both, its blanks counted anew; None if there is none.
# What stands in it many times is one tuple there, since written out it may be too great to be held.
def made_alike(one, other):
    table = Nodes()
    known = {}
    left = table.laid(one, known)
    right = table.laid(other, known)
    if not table.linked_anew([(left, right)]):
        return None
    return table.told([left])[0]


# True where `kind` is `wide` with something put in, else False.
def fits(wide, kind):
    table = Nodes()
    known = {}
    return table.becomes(table.laid(wide, known), table.laid(kind, known), {})

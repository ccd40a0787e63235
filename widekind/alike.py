"""Two kinds made alike, and whether a kind is another with something put in."""

from widekind.kinds import same
from widekind.nodes import Nodes


# The widest kind that both become when the same is put into both, its blanks counted anew; None if there is none.
# What stands in it many times is one tuple there, since written out it may be too great to be held.
def made_alike(one, other):
    table = Nodes()
    blanks = {}
    left = table.laid(one, blanks)
    right = table.laid(other, blanks)
    if not table.linked(left, right):
        return None
    return table.told(left)


# True where `kind` is `wide` with something put in, else False.
def fits(wide, kind):
    put_in = {}
    waiting = [(wide, kind)]
    while waiting:
        both = waiting.pop()
        left = both[0]
        right = both[1]
        if left[0] == "blank":
            # All is put in at once, so blanks of `kind` stand for themselves, whatever numbers `wide` has.
            if not same(put_in.setdefault(left[1], right), right):
                return False
        elif left[0] != right[0]:
            return False
        elif len(left) == 3:
            waiting.append((left[1], right[1]))
            waiting.append((left[2], right[2]))
    return True

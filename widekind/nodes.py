"""Kinds laid out as nodes that can be linked to be one.

The kind that two kinds become may be far greater than both, since one blank can
stand in them many times. Among the nodes, and in the tuple that is told in the
end, what stands in several places is there once: so the work goes by the nodes.
"""

from widekind.kinds import built


# Nodes are whole numbers. The form of a node is like a kind, but with nodes as its parts;
# that of a blank is `("blank",)`, for the node alone says which blank it is.
class Nodes:

    def __init__(self):
        self.forms = []
        self.links = []

    def added(self, form):
        node = len(self.forms)
        self.forms.append(form)
        self.links.append(node)
        return node

    # The node of a kind; `blanks` has the nodes of blanks by their numbers, and gets those that are new.
    def laid(self, kind, blanks):
        return built(kind, lambda part: self.laid_part(part, blanks))

    def laid_part(self, part, blanks):
        if part[0] != "blank":
            return self.added(part)
        if part[1] not in blanks:
            blanks[part[1]] = self.added(("blank",))
        return blanks[part[1]]

    # The node that stands for all that are linked with this one.
    def root(self, node):
        while self.links[node] != node:
            # Each walk makes the way shorter for those that come after it.
            self.links[node] = self.links[self.links[node]]
            node = self.links[node]
        return node

    # Links all nodes that must be one if these two are; False where unlike forms would be one.
    # A kind that would have to lie in itself isn't seen here, but in `parts_first`.
    def linked(self, one, other):
        waiting = [(one, other)]
        while waiting:
            both = waiting.pop()
            left = self.root(both[0])
            right = self.root(both[1])
            if left == right:
                continue
            form = self.forms[left]
            goal = self.forms[right]
            if goal[0] == "blank":
                self.links[right] = left
            elif form[0] == "blank":
                self.links[left] = right
            elif form[0] == goal[0]:
                # Linked ahead of their parts: else a kind that lies in itself would be walked for ever.
                self.links[left] = right
                waiting.extend(list(zip(form[1:], goal[1:])))
            else:
                return False
        return True

    # The roots of the parts straight within a root.
    def within(self, node):
        return [self.root(part) for part in self.forms[node][1:]]

    # The roots in a node, each once and behind those in it; None where one would lie in itself.
    def parts_first(self, node):
        order = []
        done = {}
        waiting = [self.root(node)]
        while waiting:
            top = waiting[-1]
            if top in done:
                waiting.pop()
                if not done[top]:
                    done[top] = True
                    order.append(top)
                continue
            done[top] = False
            for part in reversed(self.within(top)):
                # Begun and not done are this one and those in which it lies, and no others.
                if part in done and not done[part]:
                    return None
                waiting.append(part)
        return order

    # The kind of a node, its blanks counted anew; None where a kind would have to lie in itself.
    def told(self, node):
        order = self.parts_first(node)
        if order is None:
            return None
        kinds = {}
        count = 0
        # Blanks have no parts, so here they come in the order in which they are to be counted.
        for each in order:
            head = self.forms[each][0]
            if head == "blank":
                kinds[each] = ("blank", count)
                count = count + 1
            else:
                kinds[each] = (head,) + tuple([kinds[part] for part in self.within(each)])
        return kinds[self.root(node)]

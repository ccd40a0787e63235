"""Kinds laid out as nodes that can be linked to be one.

The kind that two kinds become may be far greater than both, since one blank can
stand in them many times. Among the nodes, and in the tuples that are told in the
end, what stands in several places is there once: so the work goes by the nodes.
"""

from widekind.kinds import built


# Nodes are whole numbers. The form of a node is like a kind, but with nodes as its parts;
# that of a blank may lack its number, for the node alone says which blank it is.
# The parts of a form were added ahead of it, so that what isn't linked can't lie in itself.
# Levels, of 1 or more, are for lets: what lies in a kind is to have no higher level than the kind has, though it may
# have until `settle`.
class Nodes:

    def __init__(self):
        self.forms = []
        self.links = []
        self.levels = []
        self.lowered = []

    def added(self, form, level=1):
        node = len(self.forms)
        self.forms.append(form)
        self.links.append(node)
        self.levels.append(level)
        return node

    # The node of a kind; `known` has nodes by their forms, and gets those that are new.
    # So kinds that are laid with one `known` have one node if they are the same.
    def laid(self, kind, known, level=1):
        return built(kind, lambda part: self.laid_part(part, known, level))

    def laid_part(self, part, known, level):
        if part not in known:
            known[part] = self.added(part, level)
        return known[part]

    # The node that stands for all that are linked with this one.
    def root(self, node):
        while self.links[node] != node:
            # Each walk makes the way shorter for those that come after it.
            self.links[node] = self.links[self.links[node]]
            node = self.links[node]
        return node

    # The roots of the parts straight within a root.
    def within(self, node):
        form = self.forms[node]
        if len(form) < 3:
            return []
        return [self.root(form[1]), self.root(form[2])]

    # Links all nodes that must be one if these two are; False where unlike forms would be one.
    # A kind that would have to lie in itself isn't seen here, but in `parts_first`.
    def linked(self, one, other):
        waiting = [(one, other)]
        while waiting:
            both = waiting.pop()
            left = self.root(both[0])
            right = self.root(both[1])
            if left == right:
                continue
            form = self.forms[left]
            goal = self.forms[right]
            if goal[0] == "blank":
                self.joined(right, left)
            elif form[0] == "blank":
                self.joined(left, right)
            elif form[0] == goal[0]:
                # Joined ahead of their parts: else a kind that lies in itself would be walked for ever.
                self.joined(left, right)
                waiting.extend(list(zip(form[1:], goal[1:])))
            else:
                return False
        return True

    def joined(self, gone, root):
        self.links[gone] = root
        if self.levels[gone] < self.levels[root]:
            self.levels[root] = self.levels[gone]
            self.lowered.append(root)

    # Links these pairs and no others; True where each two can become one kind.
    def linked_anew(self, pairs):
        self.links = list(range(len(self.forms)))
        for both in pairs:
            if not self.linked(both[0], both[1]):
                return False
        return self.sound(pairs)

    # Whether no kind would have to lie in itself, when these pairs are all that were linked.
    def sound(self, pairs):
        return self.parts_first([both[0] for both in pairs]) is not None

    # The roots in these nodes, each once and behind those in it; None where one would lie in itself.
    # What has no higher level than `bound` is passed by.
    def parts_first(self, nodes, bound=0):
        order = []
        done = {}
        waiting = [self.root(node) for node in reversed(nodes)]
        while waiting:
            top = waiting[-1]
            if top in done or self.levels[top] <= bound:
                waiting.pop()
                if not done.get(top, True):
                    done[top] = True
                    order.append(top)
                continue
            done[top] = False
            for part in reversed(self.within(top)):
                if part not in done:
                    waiting.append(part)
                elif not done[part]:
                    # Begun and not done are this one and those in which it lies, and no others.
                    return None
        return order

    # The kinds of nodes, their blanks counted anew through the list.
    def told(self, nodes):
        kinds = {}
        count = 0
        # Blanks have no parts, so here they come in the order in which they are to be counted.
        for each in self.parts_first(nodes):
            head = self.forms[each][0]
            if head == "blank":
                kinds[each] = ("blank", count)
                count = count + 1
            else:
                kinds[each] = (head,) + tuple([kinds[part] for part in self.within(each)])
        return [kinds[self.root(node)] for node in nodes]

    # Lowers what lies in kinds that were lowered since the last time.
    def settle(self):
        while self.lowered:
            node = self.root(self.lowered.pop())
            for part in self.within(node):
                if self.levels[part] > self.levels[node]:
                    self.levels[part] = self.levels[node]
                    self.lowered.append(part)

    # Of the nodes in a node, parts first, the blanks with a level above `bound` and those in which such a blank lies;
    # None where a kind would have to lie in itself.
    def freed(self, node, bound):
        self.settle()
        order = self.parts_first([node], bound)
        if order is None:
            return None
        free = {}
        for each in order:
            if self.forms[each][0] == "blank" or any([part in free for part in self.within(each)]):
                free[each] = True
            else:
                # It has nothing in it that is above the bound, and so needs no walk the next time.
                self.levels[each] = bound
        return list(free)

    # The node of a kind like that of `node`, in which those of `free`, parts first, are made anew and no others.
    def copied(self, node, free, level):
        copies = {}
        for each in free:
            form = [self.forms[each][0]] + [copies.get(part, part) for part in self.within(each)]
            copies[each] = self.added(tuple(form), level)
        return copies.get(self.root(node), node)

    # The blanks in a node.
    def blanks(self, node):
        return [each for each in self.parts_first([node]) if self.forms[each][0] == "blank"]

    # Whether `kind` is `wide` with something put in the place of its blanks, but for those that are kept.
    # Both were laid with one `known`, and nothing was linked.
    def becomes(self, wide, kind, kept):
        put_in = {}
        waiting = [(wide, kind)]
        while waiting:
            both = waiting.pop()
            left = both[0]
            right = both[1]
            if left in put_in:
                if put_in[left] != right:
                    return False
                continue
            # All is put in at once, so blanks of `kind` stand for themselves, whatever numbers `wide` has.
            put_in[left] = right
            form = self.forms[left]
            if form[0] == "blank":
                if left in kept and left != right:
                    return False
            elif form[0] != self.forms[right][0]:
                return False
            else:
                waiting.extend(list(zip(form[1:], self.forms[right][1:])))
        return True

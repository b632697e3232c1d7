"""Lines of blocks as one machine, the same at all depths: which nodes a line of the blocks of some nodes leads to.

Sets of nodes are integers, with a bit for each. A line is a row, or a column, told by its figures.
"""

from everydepth.masks import united


class LineMasks:
    """Where lines of the blocks of nodes lead; lines has for each node, for each line of its block, the nodes there.

    What was asked once is kept: great depths ask the same again and again.
    """

    def __init__(self, base, lines):
        self.base = base
        self.lines = lines
        self._masks = {}
        self._spans = None
        self._told_behind = {}
        self._told_ahead = {}
        self._told_anywhere = {}

    def masks(self, i):
        """The list of the tuples (bit, set of the nodes in a line of its block) of all nodes with some."""
        if i not in self._masks:
            self._masks[i] = [(1 << node, united([1 << inner for inner in lines[i]]))
                              for node, lines in enumerate(self.lines) if lines[i]]
        return self._masks[i]

    def spans(self):
        """The list of the tuples (bit, set of the nodes in its block) of all nodes with some."""
        if self._spans is None:
            found = {}
            for i in range(self.base):
                for bit, mask in self.masks(i):
                    found[bit] = found.get(bit, 0) | mask
            self._spans = list(found.items())
        return self._spans

    def behind(self, nodes, i):
        """The set of the nodes in a line of the blocks of some nodes."""
        key = (nodes, i)
        if key not in self._told_behind:
            self._told_behind[key] = united([mask for bit, mask in self.masks(i) if nodes & bit])
        return self._told_behind[key]

    def ahead(self, i, goals):
        """The set of the nodes with a goal in a line of their blocks."""
        key = (i, goals)
        if key not in self._told_ahead:
            self._told_ahead[key] = sum([bit for bit, mask in self.masks(i) if mask & goals])
        return self._told_ahead[key]

    def with_goals(self, goals, depth):
        """The list of the sets of the nodes that have goals in their sheets, for each depth up to this one."""
        found = [goals]
        while len(found) <= depth:
            if goals not in self._told_anywhere:
                self._told_anywhere[goals] = sum([bit for bit, span in self.spans() if span & goals])
            if self._told_anywhere[goals] == goals:
                found.extend([goals] * (depth + 1 - len(found)))
            else:
                goals = self._told_anywhere[goals]
                found.append(goals)
        return found

    def on_line(self, goals, figures):
        """The like for the line with these figures, of which sheets of less depth have the last ones."""
        found = [goals]
        figure, ahead = -1, -1
        for i in reversed(figures):
            if i != figure or goals != ahead:
                figure, ahead = i, goals
                inner = self.ahead(i, goals)
            goals = inner
            found.append(goals)
        return found

    def end_figures(self, nodes, layers, last):
        """The figures of the first line, or of the last one, that has goals in the sheets of some nodes; one has.

        The set of these goals is told, too. layers are what with_goals returns for the depth of the sheets.
        """
        found = []
        sequence = all_figures(self.base, last)
        ahead, goals_ahead = -1, -1
        for goals in layers[-2::-1]:
            # At great depths it mostly goes on as it did by the figure ahead.
            if nodes != ahead or goals != goals_ahead:
                ahead, goals_ahead = nodes, goals
                for i in sequence:
                    inner = self.behind(nodes, i) & goals
                    if inner:
                        break
            found.append(i)
            nodes = inner
        return found, nodes


def all_figures(base, last):
    """The list of the figures, backwards if the last one is asked for."""
    return list(range(base - 1, -1, -1)) if last else list(range(base))


def number_of_figures(base, figures):
    """The number with these figures, the highest ones first."""
    number = 0
    for figure in figures:
        number = number * base + figure
    return number

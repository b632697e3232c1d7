"""Many sums of numbers that stand at told places of a list.

They are written out term by term: so each takes a part of the time that it takes to put its terms
into a list of their own, and great depths ask for very many.
"""


def added(n, rows):
    """For each row of places the sum of the numbers there; the rows are tuples, all as long."""
    many = len(rows[0])
    if many == 2:
        return [n[a] + n[b] for a, b in rows]
    if many == 3:
        return [n[a] + n[b] + n[c] for a, b, c in rows]
    if many == 4:
        return [n[a] + n[b] + n[c] + n[d] for a, b, c, d in rows]
    if many == 6:
        return [n[a] + n[b] + n[c] + n[d] + n[e] + n[f] for a, b, c, d, e, f in rows]
    if many == 8:
        return [n[a] + n[b] + n[c] + n[d] + n[e] + n[f] + n[g] + n[h] for a, b, c, d, e, f, g, h in rows]
    if many == 9:
        return [n[a] + n[b] + n[c] + n[d] + n[e] + n[f] + n[g] + n[h] + n[i] for a, b, c, d, e, f, g, h, i in rows]
    if many == 12:
        return [n[a] + n[b] + n[c] + n[d] + n[e] + n[f] + n[g] + n[h] + n[i] + n[j] + n[k] + n[m]
                for a, b, c, d, e, f, g, h, i, j, k, m in rows]
    if many == 16:
        return [n[a] + n[b] + n[c] + n[d] + n[e] + n[f] + n[g] + n[h] + n[i] + n[j] + n[k] + n[m] + n[p] + n[q] + n[r]
                + n[s] for a, b, c, d, e, f, g, h, i, j, k, m, p, q, r, s in rows]
    return [sum([n[place] for place in row]) for row in rows]


class Sources:
    """For each of some sums the list of the places of its terms, of any lengths."""

    def __init__(self, places):
        self._many = len(places)
        self._singles = []
        self._firsts = []
        self._eights = []
        self._fours = []
        self._twos = []
        self._ones = []
        for at, terms in enumerate(places):
            many = len(terms)
            if many == 1:
                self._singles.append((at, terms[0]))
                continue
            first = 0
            if many >= 8:
                self._firsts.append((at, *terms[:8]))
                first = 8
                while many - first >= 8:
                    self._eights.append((at, *terms[first:first + 8]))
                    first += 8
            if many - first >= 4:
                self._fours.append((at, *terms[first:first + 4]))
                first += 4
            if many - first >= 2:
                self._twos.append((at, terms[first], terms[first + 1]))
                first += 2
            if first < many:
                self._ones.append((at, terms[first]))

    def sums(self, n):
        """The list of the sums of the numbers at the places."""
        found = [0] * self._many
        for at, a in self._singles:
            found[at] = n[a]
        for at, a, b, c, d, e, f, g, h in self._firsts:
            found[at] = n[a] + n[b] + n[c] + n[d] + n[e] + n[f] + n[g] + n[h]
        for at, a, b, c, d, e, f, g, h in self._eights:
            found[at] += n[a] + n[b] + n[c] + n[d] + n[e] + n[f] + n[g] + n[h]
        for at, a, b, c, d in self._fours:
            found[at] += n[a] + n[b] + n[c] + n[d]
        for at, a, b in self._twos:
            found[at] += n[a] + n[b]
        for at, a in self._ones:
            found[at] += n[a]
        return found


class Flows:
    """For each of some sums the list of the tuples (place, times) of its terms, of any lengths."""

    def __init__(self, flows):
        self._once = Sources([[place for place, times in terms if times == 1] for terms in flows])
        self._twos = []
        self._ones = []
        for at, terms in enumerate(flows):
            often = [number for place, times in terms if times > 1 for number in (place, times)]
            while len(often) >= 4:
                self._twos.append((at, *often[:4]))
                often = often[4:]
            if often:
                self._ones.append((at, *often))

    def sums(self, n):
        """The list of the sums of the numbers at the places, each so many times."""
        found = self._once.sums(n)
        for at, a, i, b, j in self._twos:
            found[at] += n[a] * i + n[b] * j
        for at, a, i in self._ones:
            found[at] += n[a] * i
        return found

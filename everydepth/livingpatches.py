"""The patches of a picture that lead to a pattern, as one machine: in them, or in what lies in them, it comes about."""

from everydepth.patches import patches_of
from everydepth.windows import Finder, places_in


class LivingPatches:
    """The patches up to some depth, or of any if it is None, that lead to a pattern.

    children has for each patch the numbers of those that lie in it, one depth deeper, spots for each of
    these its place, by its number in reading order in the block of the first letter, and places the
    list of the places (i, j) at which the pattern begins in the patch, across its seams. The first
    patch is that of the picture itself; all are empty if it does not lead to the pattern.
    """

    def __init__(self, few, pattern, last):
        self.base = few[0][0]
        self.children = []
        self.spots = []
        self.places = []
        patches = patches_of(few, len(pattern), len(pattern[0]), False)
        small = patches.small_insides(last)
        goals = Finder(patches, pattern).all_places(small, None)
        alive = patches.leading(small, goals)
        start = patches.first_patches[0]
        if start in alive:
            self._tell(patches, small, goals, alive, start)

    def _tell(self, patches, small, goals, alive, start):
        nodes = [start]
        numbers = {start: 0}
        while len(self.children) < len(nodes):
            patch = nodes[len(self.children)]
            inside, spots = small[patch] if patch in small else patches.inside_four(patch)
            told = [(inner, spot) for inner, spot in zip(inside, spots) if inner in alive]
            for inner, _ in told:
                if inner not in numbers:
                    numbers[inner] = len(nodes)
                    nodes.append(inner)
            self.children.append([numbers[inner] for inner, _ in told])
            self.spots.append([spot for _, spot in told])
            self.places.append(places_in(goals[patch]) if patch in goals else [])

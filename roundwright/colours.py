"""Two webs whose places are parted into cells, finer and finer, to find a renaming from one to the other.

The places of both webs stand together in the cells: those of the second web are numbered on behind those of the
first. Each place of a cell leads to as many places of each cell, and as many of each lead to it.
"""


class PairSplit:
    """Two webs of as many places and pairs, whose places are parted into cells."""

    def __init__(self, one, other):
        self.size = one.size
        both = 2 * one.size
        pairs = list(one.pairs) + [(first + one.size, second + one.size) for first, second in other.pairs]
        self.behind = [[] for _ in range(both)]
        self.ahead = [[] for _ in range(both)]
        for first, second in pairs:
            self.behind[first].append(second)
            self.ahead[second].append(first)
        self.cell = [0] * both
        self.cells = [list(range(both))]

    def is_even(self, group):
        """Whether as many of a group are places of one web as of the other."""
        return 2 * len([place for place in group if place < self.size]) == len(group)

    def part_cell(self, number, groups, waiting):
        """Part a cell into groups, of which the greatest one keeps the cell's number; whether all are even."""
        if not all([self.is_even(group) for group in groups]):
            return False
        greatest = max([len(group) for group in groups])
        kept = False
        for group in groups:
            if len(group) == greatest and not kept:
                kept = True
                self.cells[number] = group
            else:
                for place in group:
                    self.cell[place] = len(self.cells)
                waiting.append(len(self.cells))
                self.cells.append(group)
        return True

    def part_by(self, splitter, beside, waiting):
        """Part all cells by how many places beside each place are in the splitter; whether all is even."""
        counts = {}
        for place in splitter:
            for other in beside[place]:
                counts[other] = counts.get(other, 0) + 1
        touched = {}
        for place in counts:
            touched.setdefault(self.cell[place], {}).setdefault(counts[place], []).append(place)
        for number, groups in touched.items():
            many = sum([len(group) for group in groups.values()])
            if many < len(self.cells[number]):
                groups[0] = [place for place in self.cells[number] if place not in counts]
            if len(groups) > 1 and not self.part_cell(number, list(groups.values()), waiting):
                return False
        return True

    def refine(self, waiting):
        """Part cells by those that wait until none is parted any more; whether all is even."""
        while waiting:
            splitter = self.cells[waiting.pop()]
            if not self.part_by(splitter, self.ahead, waiting) or not self.part_by(splitter, self.behind, waiting):
                return False
        return True

    def tie(self, place, image):
        """Put a place and its image into a cell of their own; whether all is even then."""
        number = self.cell[place]
        rest = [at for at in self.cells[number] if at not in (place, image)]
        waiting = []
        return self.part_cell(number, [rest, [place, image]], waiting) and self.refine(waiting)

    def open_place(self, first):
        """The least place from a first one on whose image is open, None if there is none."""
        for place in range(first, self.size):
            if len(self.cells[self.cell[place]]) > 2:
                return place
        return None

    def images_of(self, place):
        """The images that a place can get, the least one last."""
        return sorted([at for at in self.cells[self.cell[place]] if at >= self.size])[::-1]

    def image(self, place):
        """The image of a place in whose cell it stands alone with this."""
        return sum(self.cells[self.cell[place]]) - place - self.size

    def least_renaming(self):
        """The least map in which all places get images of their cells; None without one."""
        if not self.refine([0]):
            return None
        place = self.open_place(0)
        choices = [] if place is None else [(place, self.images_of(place), self.cell, self.cells)]
        while choices:
            place, images, cell, cells = choices[-1]
            if not images:
                choices.pop()
                continue
            self.cell = list(cell)
            self.cells = list(cells)
            if self.tie(place, images.pop()):
                place = self.open_place(place)
                if place is None:
                    return tuple([self.image(at) for at in range(self.size)])
                choices.append((place, self.images_of(place), self.cell, self.cells))
        return tuple([self.image(at) for at in range(self.size)]) if place is None else None

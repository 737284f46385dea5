"""Places of a board as whole numbers: one bit for each place.

Many places are one number so, and what is beside all of them is found in a few steps, however many
they are. Chases go through very many boards and need that.
"""


# Behind each row stands a column that is not on the board: without it the last place of a row would
# be beside the first of the next.
class Grid:
    def __init__(self, size):
        self.size = size
        self.width = size + 1
        self.length = size * self.width
        self.all_places = self.bits_of(list(range(size * size)))

    def bit_of(self, place):
        return 1 << (place // self.size * self.width + place % self.size)

    def bits_of(self, places):
        bits = 0
        for place in places:
            bits = bits | self.bit_of(place)
        return bits

    # There may be bits beyond the board among these: they go when stones or empty places are asked for.
    def beside(self, bits):
        return bits << 1 | bits >> 1 | bits << self.width | bits >> self.width

    # All of the stones that hang together with the first ones.
    def part_of(self, first, stones):
        width = self.width
        part = 0
        wider = first
        while wider != part:
            part = wider
            # As beside has it; a call for each step would take as long again.
            wider = (part | part << 1 | part >> 1 | part << width | part >> width) & stones
        return part

    # Each part of the stones that has one of the places.
    def parts_at(self, bits, stones):
        parts = []
        left = bits & stones
        while left:
            part = self.part_of(left & -left, stones)
            parts.append(part)
            left = left & ~part
        return parts

    # Mine and theirs when a stone of mine has been put; None if its own string has no breath then.
    def put(self, mine, theirs, bit):
        mine = mine | bit
        empty = self.all_places ^ mine ^ theirs
        # Most stones have a breath of their own: then their strings needn't be walked.
        for string in self.parts_at(self.beside(bit) & ~self.beside(empty), theirs):
            if not self.beside(string) & empty:
                theirs = theirs & ~string
        empty = self.all_places ^ mine ^ theirs
        if self.beside(bit) & empty or self.beside(self.part_of(bit, mine)) & empty:
            return (mine, theirs)
        return None


def one_by_one(bits):
    found = []
    while bits:
        found.append(bits & -bits)
        bits = bits & (bits - 1)
    return found


def is_one(bits):
    return bits != 0 and bits & (bits - 1) == 0

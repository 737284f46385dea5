"""What has been found of the boards that a chase came to, kept within a fixed bound."""

# Less than 400 bytes each on a board of 19 by 19 places, so 20 MB in all.
MOST_KEPT = 50000

# Where it stands in what is kept of a board: the most turns known to be too few, the fewest known to
# be enough, and how much work it was to find these.
TOO_FEW = 0
ENOUGH = 1
WORK = 2


# A board that was forgotten is searched anew: that costs time, but never changes an answer.
class Memory:
    def __init__(self, most_kept, nothing_known):
        self.most_kept = most_kept
        self.nothing_known = nothing_known
        self.kept = {}

    def known_of(self, board):
        return self.kept.get(board, self.nothing_known)

    def keep(self, board, too_few, enough, work):
        known = self.known_of(board)
        if board not in self.kept and len(self.kept) >= self.most_kept:
            self.forget()
        self.kept[board] = (max(known[TOO_FEW], too_few), min(known[ENOUGH], enough), known[WORK] + work)

    # Half of the boards go, or more: those that were the least work, since they are found again the
    # soonest. The work of the others counts half from now on, else what was much work long ago would
    # stay for ever.
    def forget(self):
        works = sorted([known[WORK] for known in self.kept.values()])
        middle = works[len(works) // 2]
        kept = {}
        for board, known in self.kept.items():
            if known[WORK] > middle:
                kept[board] = (known[TOO_FEW], known[ENOUGH], known[WORK] // 2)
        self.kept = kept

"""One house: its room, its branches and their entries."""

FIRST_ROOM = 100
FIRST_LIFE = 7
FIRST_SHARE = 0


class Branch:
    def __init__(self, parent, share):
        self.parent = parent
        self.share = share


class Entry:
    def __init__(self, branch, size, content, key):
        self.branch = branch
        self.size = size
        self.content = content
        self.key = key
        self.last_use = 0
        self.last_day = 0


class House:
    def __init__(self):
        self.start_anew(FIRST_ROOM, FIRST_LIFE, FIRST_SHARE)

    # The dict of branches keeps the order of opening, the list of entries that of saving.
    def start_anew(self, room, life, share):
        self.room = room
        self.life = life
        self.day = 0
        self.uses = 0
        self.branches = {0: Branch(0, share)}
        self.entries = []

    def has_branch(self, number):
        return number in self.branches

    def line_of(self, number):
        line = [number]
        while number != 0:
            number = self.branches[number].parent
            line.append(number)
        return line

    def shares_together(self):
        return sum([branch.share for branch in self.branches.values()])

    # Days are too coarse to tell which entry was used least lately, so uses are counted, too.
    def mark_used(self, entry):
        self.uses += 1
        entry.last_use = self.uses
        entry.last_day = self.day

    def add_entry(self, entry):
        self.mark_used(entry)
        self.entries.append(entry)

    def drop_entries(self, going):
        for gone in going:
            self.entries = entries_without(self.entries, gone)


def entries_of_branch(entries, number):
    return [entry for entry in entries if entry.branch == number]


def entries_without(entries, gone):
    # No two entries have the same last use, so it tells which one is meant.
    return [entry for entry in entries if entry.last_use != gone.last_use]


def sizes_together(entries):
    return sum([entry.size for entry in entries])


def counted_contents(entries):
    return [len(entries)] + [entry.content for entry in entries]

"""Who has to give when there is not enough room for a new entry."""

from branchcaches.house_state import entries_of_branch, entries_without, sizes_together


# Nothing is changed here: with no room in the end, nothing may have gone.
def entries_to_go(house, saver, size):
    staying = list(house.entries)
    going = []
    while sizes_together(staying) + size > house.room:
        number = giving_branch(house, staying, saver, size)
        if number is None:
            return None
        gone = least_lately_used(entries_of_branch(staying, number))
        staying = entries_without(staying, gone)
        going.append(gone)
    return going


# Walked from the lowest number up, so that of several equally far above the lowest stays chosen.
def giving_branch(house, staying, saver, size):
    chosen = None
    farthest = 0
    for number in sorted(house.branches):
        held = entries_of_branch(staying, number)
        above = sizes_together(held) - house.branches[number].share
        if number == saver:
            above += size
        if len(held) > 0 and above > farthest:
            chosen = number
            farthest = above
    return chosen


def least_lately_used(entries):
    return min(entries, key=lambda entry: entry.last_use)

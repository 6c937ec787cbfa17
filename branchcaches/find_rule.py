"""What a branch finds on its line."""

from branchcaches.house_state import entries_of_branch

BY_KEY = 0


# way is 0 for the key, or which of the beginnings it was, counted from 1.
class Found:
    def __init__(self, way, entry):
        self.way = way
        self.entry = entry


# A nearer branch goes ahead of a better fit farther on, so each branch is asked for all at once.
def found_on_line(house, number, key, beginnings):
    for owner in house.line_of(number):
        found = found_among(entries_of_branch(house.entries, owner), key, beginnings)
        if found is not None:
            return found
    return None


def found_among(entries, key, beginnings):
    for entry in entries:
        if entry.key == key:
            return Found(BY_KEY, entry)
    for way, beginning in enumerate(beginnings, start=1):
        fitting = [entry for entry in entries if is_begun_by(entry.key, beginning)]
        if len(fitting) > 0:
            return Found(way, fitting[-1])
    return None


def is_begun_by(key, beginning):
    return key[:len(beginning)] == beginning

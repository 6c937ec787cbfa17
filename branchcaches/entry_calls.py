"""The calls about entries: save."""

from branchcaches.house_state import Entry, counted_contents, entries_of_branch
from branchcaches.key_rule import is_key
from branchcaches.refusals import IS_THERE, NO_BRANCH, NO_KEY, NO_ROOM, OUT_OF_BOUNDS, TOO_MANY
from branchcaches.room_rule import entries_to_go

MOST_ENTRIES = 40


def answer_save(house, number, size, content, key):
    if not house.has_branch(number):
        return [NO_BRANCH]
    if size == 0 or size > house.room:
        return [OUT_OF_BOUNDS]
    if not is_key(key):
        return [NO_KEY]
    if is_key_taken(house, number, key):
        return [IS_THERE]
    if len(house.entries) >= MOST_ENTRIES:
        return [TOO_MANY]
    going = entries_to_go(house, number, size)
    if going is None:
        return [NO_ROOM]
    for entry in going:
        house.drop_entry(entry)
    house.add_entry(Entry(number, size, content, key))
    return counted_contents(going)


def is_key_taken(house, number, key):
    return key in [entry.key for entry in entries_of_branch(house.entries, number)]

"""The calls about entries: save, find, would, pass_days, list_of."""

from branchcaches.find_rule import found_on_line
from branchcaches.house_state import Entry, counted_contents, entries_of_branch, sizes_together
from branchcaches.key_rule import is_beginning, is_key
from branchcaches.refusals import IS_THERE, NO_BRANCH, NO_KEY, NO_ROOM, NOTHING_FOUND, OUT_OF_BOUNDS, TOO_MANY
from branchcaches.room_rule import entries_to_go

MOST_ENTRIES = 40
MOST_BEGINNINGS = 4
HIGHEST_DAY = 1000000


def answer_save(house, number, size, content, key):
    if not house.has_branch(number):
        return [NO_BRANCH]
    if not is_size(house, size):
        return [OUT_OF_BOUNDS]
    if not is_key(key):
        return [NO_KEY]
    if is_key_taken(house, number, key):
        return [IS_THERE]
    if len(house.entries) >= MOST_ENTRIES:
        return [TOO_MANY]
    going = entries_to_go(house, number, size)
    if going is None:
        return [NO_ROOM]
    house.drop_entries(going)
    house.add_entry(Entry(number, size, content, key))
    return counted_contents(going)


# No key is handed in and no entry is kept, so neither keys nor the count of entries refuse anything here.
def answer_would(house, number, size):
    if not house.has_branch(number):
        return [NO_BRANCH]
    if not is_size(house, size):
        return [OUT_OF_BOUNDS]
    going = entries_to_go(house, number, size)
    if going is None:
        return [NO_ROOM]
    return counted_contents(going)


def answer_find(house, number, key, beginnings):
    if not house.has_branch(number):
        return [NO_BRANCH]
    if not is_key(key) or not are_beginnings(beginnings):
        return [NO_KEY]
    found = found_on_line(house, number, key, beginnings)
    if found is None:
        return [NOTHING_FOUND]
    entry = found.entry
    # Who only comes from the entry's branch must not keep it from growing old.
    if entry.branch == number:
        house.mark_used(entry)
    return [found.way, entry.branch, entry.content, entry.size] + entry.key


def answer_pass_days(house, days):
    if days == 0 or house.day + days > HIGHEST_DAY:
        return [OUT_OF_BOUNDS]
    house.day += days
    going = [entry for entry in house.entries if house.day - entry.last_day > house.life]
    house.drop_entries(going)
    return counted_contents(going)


def answer_list_of(house, number):
    if not house.has_branch(number):
        return [NO_BRANCH]
    held = entries_of_branch(house.entries, number)
    answer = [len(held), sizes_together(held)]
    for entry in held:
        answer.extend([entry.content, entry.size, entry.last_day])
    return answer


def is_size(house, size):
    return 1 <= size <= house.room


def is_key_taken(house, number, key):
    return key in [entry.key for entry in entries_of_branch(house.entries, number)]


def are_beginnings(rows):
    return len(rows) <= MOST_BEGINNINGS and all([is_beginning(row) for row in rows])

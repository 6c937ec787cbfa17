"""The calls about the house and its branches: begins, opens, closes, share, state."""

from branchcaches.house_state import Branch, counted_contents, entries_of_branch, sizes_together
from branchcaches.refusals import IS_BRANCH_ZERO, IS_THERE, NO_BRANCH, OUT_OF_BOUNDS, TOO_MANY

HIGHEST_ROOM = 1000000
HIGHEST_LIFE = 1000000
MOST_BRANCHES = 8


def answer_begins(house, room, life, share):
    if room == 0 or room > HIGHEST_ROOM or life > HIGHEST_LIFE or share > room:
        return [OUT_OF_BOUNDS]
    house.start_anew(room, life, share)
    return [0]


def answer_opens(house, number, parent, share):
    if house.has_branch(number):
        return [IS_THERE]
    if not house.has_branch(parent):
        return [NO_BRANCH]
    if house.shares_together() + share > house.room:
        return [OUT_OF_BOUNDS]
    if len(house.branches) >= MOST_BRANCHES:
        return [TOO_MANY]
    house.branches[number] = Branch(parent, share)
    return [len(house.branches)]


def answer_closes(house, number):
    if not house.has_branch(number):
        return [NO_BRANCH]
    if number == 0:
        return [IS_BRANCH_ZERO]
    closed = house.branches.pop(number)
    for branch in house.branches.values():
        if branch.parent == number:
            branch.parent = closed.parent
    going = entries_of_branch(house.entries, number)
    house.drop_entries(going)
    return counted_contents(going)


def answer_share(house, number, part):
    if not house.has_branch(number):
        return [NO_BRANCH]
    branch = house.branches[number]
    if house.shares_together() - branch.share + part > house.room:
        return [OUT_OF_BOUNDS]
    branch.share = part
    return [0]


def answer_state(house):
    answer = [len(house.branches)]
    for number, branch in house.branches.items():
        size = sizes_together(entries_of_branch(house.entries, number))
        answer.extend([number, branch.parent, branch.share, size])
    return answer

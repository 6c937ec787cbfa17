"""Answers a list of calls on one new house, all in plain numbers."""

from branchcaches.branch_calls import answer_begins, answer_closes, answer_opens, answer_share, answer_state
from branchcaches.call_reader import Reader
from branchcaches.entry_calls import answer_find, answer_list_of, answer_pass_days, answer_save, answer_would
from branchcaches.house_state import House

BEGINS = 0
OPENS = 1
CLOSES = 2
SHARE = 3
SAVE = 4
FIND = 5
WOULD = 6
PASS_DAYS = 7
LIST_OF = 8


def answers(calls):
    house = House()
    reader = Reader(calls)
    answered = []
    while not reader.is_done():
        answer = answer_from(house, reader)
        answered.append(len(answer))
        answered.extend(answer)
    return answered


def answer_from(house, reader):
    call = reader.take_number()
    numbers = reader.take_list()
    lists = reader.take_lists()
    return answer_call(house, call, numbers, lists)


def answer_call(house, call, numbers, lists):
    if call == BEGINS:
        return answer_begins(house, numbers[0], numbers[1], numbers[2])
    if call == OPENS:
        return answer_opens(house, numbers[0], numbers[1], numbers[2])
    if call == CLOSES:
        return answer_closes(house, numbers[0])
    if call == SHARE:
        return answer_share(house, numbers[0], numbers[1])
    if call == SAVE:
        return answer_save(house, numbers[0], numbers[1], numbers[2], lists[0])
    if call == FIND:
        return answer_find(house, numbers[0], lists[0], lists[1:])
    if call == WOULD:
        return answer_would(house, numbers[0], numbers[1])
    if call == PASS_DAYS:
        return answer_pass_days(house, numbers[0])
    if call == LIST_OF:
        return answer_list_of(house, numbers[0])
    # state alone is left: nothing but the ten calls is handed in.
    return answer_state(house)

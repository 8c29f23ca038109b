"""The one entrance: a line of calls in, all their answers out."""

from triesagaindesk.house import House
from triesagaindesk.reader import Reader

BEGINS = 0
TEST = 1
RESULT = 2
BEST = 3
CHANCES = 4
FAILS = 5
WORTH = 6
WOULD = 7
STATE = 8


def answer_call(house, call, numbers, lists):
    """What the house answers to one call."""
    if call == BEGINS:
        return house.begins(numbers[0], numbers[1], numbers[2])
    if call == TEST:
        return house.test(lists[0], lists[1:])
    if call == RESULT:
        return house.result(numbers[0], numbers[1])
    if call == BEST:
        return house.best()
    if call == CHANCES:
        return house.chances(numbers[0])
    if call == FAILS:
        return house.fails(numbers[0])
    if call == WORTH:
        return house.worth(numbers[0])
    if call == WOULD:
        return house.would(numbers[0], numbers[1])
    if call == STATE:
        return house.state()
    raise ValueError(f"there is no call {call}")


def answers(calls):
    """For each call, in order, how many numbers are answered, then these."""
    reader = Reader(calls)
    house = House()
    told = []
    while not reader.at_end():
        call = reader.take_number()
        numbers = reader.take_list()
        lists = reader.take_lists()
        answer = answer_call(house, call, numbers, lists)
        told.append(len(answer))
        told.extend(answer)
    return told

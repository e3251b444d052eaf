"""The calls of one list, answered one behind another."""

from oncecodes.loading import SAVED_SIZE, loaded_house
from oncecodes.parts import answer_code, answer_mark, answer_mix, answer_unwrap, answer_wrap
from oncecodes.ranges import are_bytes, is_key
from oncecodes.reading import Reader
from oncecodes.refusals import NOT_GENUINE, OUT_OF_RANGE
from oncecodes.saving import answer_save
from oncecodes.state import House

CODE = 0
WRAP = 1
UNWRAP = 2
MARK = 3
MIX = 4
BEGIN = 10
HOLDER = 11
DROP = 12
TRY = 13
TWO = 14
TOLD = 15
GIVE = 16
SHOW = 17
TAKE = 18
VOID = 19
SWEEP = 20
LOAD = 22


def answer_part(number, wholes, rows):
    """The answer of a part, which needs no house."""
    if number == CODE:
        return answer_code(wholes[0], wholes[1], rows[0])
    if number == WRAP:
        return answer_wrap(rows[0], rows[1])
    if number == UNWRAP:
        return answer_unwrap(rows[0], rows[1])
    if number == MARK:
        return answer_mark(rows[0], rows[1])
    return answer_mix(wholes[0], wholes[1], wholes[2], rows[0])


def answer_house(house, number, wholes, rows):
    """The answer of a house that there is."""
    if number == HOLDER:
        return house.add_holder(wholes[0], wholes[1], wholes[2], rows[0])
    if number == DROP:
        return house.drop_holder(wholes[0])
    if number == TRY:
        return house.try_code(wholes[0], wholes[1], rows[0])
    if number == TWO:
        return house.try_two(wholes[0], wholes[1], wholes[2], rows[0])
    if number == TOLD:
        return house.tell_holder(wholes[0])
    if number == GIVE:
        return house.give_ticket(wholes[0], wholes[1], wholes[2], wholes[3])
    if number == SHOW:
        return house.show_ticket(wholes[0], rows[0])
    if number == TAKE:
        return house.take_ticket(rows[0])
    if number == VOID:
        return house.void_tickets(wholes[0])
    if number == SWEEP:
        return house.sweep_list(wholes[0])
    return answer_save(house, rows[0])


class Line:
    """What one list of calls is about: a house, or None before there is one."""

    def __init__(self):
        self.house = None

    def begin(self, key):
        """A new house in the place of the old one; 0."""
        if not is_key(key):
            return [OUT_OF_RANGE]
        self.house = House(key)
        return [0]

    def load(self, key, under, saved):
        """A house as it was saved in the place of the old one; 0."""
        if not (is_key(key) and is_key(under) and are_bytes(saved, SAVED_SIZE, SAVED_SIZE)):
            return [OUT_OF_RANGE]
        house = loaded_house(key, under, saved)
        if house is None:
            return [NOT_GENUINE]
        self.house = house
        return [0]

    def answer(self, call):
        """The numbers that the call answers."""
        if call.number <= MIX:
            return answer_part(call.number, call.wholes, call.rows)
        if call.number == BEGIN:
            return self.begin(call.rows[0])
        if call.number == LOAD:
            return self.load(call.rows[0], call.rows[1], call.rows[2])
        if self.house is None:
            return [OUT_OF_RANGE]
        return answer_house(self.house, call.number, call.wholes, call.rows)


def answers(calls):
    """For each call how many numbers it answers, then these."""
    reader = Reader(calls)
    line = Line()
    given = []
    while not reader.at_end():
        answer = line.answer(reader.read_call())
        given.append(len(answer))
        given.extend(answer)
    return given

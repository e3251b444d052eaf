"""A house: its key, its holders, the next ticket's number, and the tickets that were taken back."""

from oncecodes.holders import Holder
from oncecodes.ranges import LAST_FIRST, LAST_RIGHTS, LAST_SPAN, LAST_STEP, PLACES
from oncecodes.ranges import are_bytes, are_digits, are_two_codes, is_code, is_place, is_secret, is_time, is_within
from oncecodes.refusals import NO_HOLDER, NO_ROOM, NOT_GENUINE, NOT_ITS_TIME, NOT_NOW, OUT_OF_RANGE
from oncecodes.tickets import TICKET_SIZE, Ticket, ticket_bytes
from oncecodes.wrapping import unwrapped, wrapped

# 2^60: with a greater number the house gives no ticket any more.
LAST_NUMBER = 0x1000000000000000
LIST_PLACES = 256


class House:
    """Its calls answer a list of numbers; one that refuses leaves the house as it was.

    number is that of the next ticket; taken holds the number and the end of each ticket that was taken back.
    """

    def __init__(self, key):
        self.key = key
        self.number = 1
        self.holders = [None] * PLACES
        self.taken = []

    def free_place(self):
        """The least place without a holder, or None."""
        for place, holder in enumerate(self.holders):
            if holder is None:
                return place
        return None

    def add_holder(self, step, digits, first, secret):
        """A new holder; its place."""
        if not (is_within(step, 0, LAST_STEP) and are_digits(digits)):
            return [OUT_OF_RANGE]
        if not (is_within(first, 0, LAST_FIRST) and is_secret(secret)):
            return [OUT_OF_RANGE]
        place = self.free_place()
        if place is None:
            return [NO_ROOM]
        # Tickets of one who had the place before are void for the new holder.
        self.holders[place] = Holder(secret, step, digits, first, self.number - 1)
        return [place]

    def drop_holder(self, place):
        """The place is free; 0."""
        if not is_place(place):
            return [OUT_OF_RANGE]
        if self.holders[place] is None:
            return [NO_HOLDER]
        self.holders[place] = None
        return [0]

    def try_code(self, place, now, code):
        """1 if the holder's code is good, else 0."""
        if not (is_place(place) and is_time(now) and is_code(code)):
            return [OUT_OF_RANGE]
        holder = self.holders[place]
        if holder is None:
            return [NO_HOLDER]
        refusal = holder.refusal(now)
        if refusal is not None:
            return [refusal]
        return [holder.take_code(now, code)]

    def try_two(self, place, now, digits, codes):
        """1 if the counted holder's two codes, one behind the other, are good, else 0."""
        if not (is_place(place) and is_time(now) and are_two_codes(digits, codes)):
            return [OUT_OF_RANGE]
        holder = self.holders[place]
        if holder is None:
            return [NO_HOLDER]
        if holder.step != 0:
            return [NOT_NOW]
        refusal = holder.refusal(now)
        if refusal is not None:
            return [refusal]
        return [holder.take_pair(now, codes)]

    def tell_holder(self, place):
        """0, then next, failed, until, earned."""
        if not is_place(place):
            return [OUT_OF_RANGE]
        holder = self.holders[place]
        if holder is None:
            return [NO_HOLDER]
        return [0, holder.counter, holder.failed, holder.until, holder.earned]

    def give_ticket(self, place, now, span, rights):
        """How many bytes the new ticket has, then these."""
        if not (is_place(place) and is_time(now) and is_within(span, 1, LAST_SPAN)):
            return [OUT_OF_RANGE]
        if not is_within(rights, 0, LAST_RIGHTS):
            return [OUT_OF_RANGE]
        holder = self.holders[place]
        if holder is None:
            return [NO_HOLDER]
        if holder.earned == 0:
            return [NOT_NOW]
        if self.number > LAST_NUMBER:
            return [NO_ROOM]
        row = wrapped(self.key, ticket_bytes(self.number, place, rights, now, now + span))
        self.number += 1
        holder.earned = 0
        return [len(row)] + row

    def own_ticket(self, row):
        """The ticket that is wrapped there, or None if it isn't the house's."""
        plain = unwrapped(self.key, row)
        if plain is None:
            return None
        ticket = Ticket(plain)
        if not (is_within(ticket.number, 1, self.number - 1) and is_place(ticket.place) and ticket.has_sound_end()):
            return None
        holder = self.holders[ticket.place]
        if holder is None or ticket.number <= holder.floor:
            return None
        return ticket

    def is_taken(self, number):
        """Whether the ticket of that number was taken back."""
        return number in [entry[0] for entry in self.taken]

    def show_ticket(self, now, row):
        """The ticket's holder, then its bytes as they were before they were wrapped."""
        if not (is_time(now) and are_bytes(row, TICKET_SIZE, TICKET_SIZE)):
            return [OUT_OF_RANGE]
        ticket = self.own_ticket(row)
        if ticket is None:
            return [NOT_GENUINE]
        if self.is_taken(ticket.number):
            return [NOT_NOW]
        if not ticket.is_good_at(now):
            return [NOT_ITS_TIME]
        return [ticket.place] + ticket.plain

    def take_ticket(self, row):
        """The ticket is in the list; 0."""
        if not are_bytes(row, TICKET_SIZE, TICKET_SIZE):
            return [OUT_OF_RANGE]
        ticket = self.own_ticket(row)
        if ticket is None:
            return [NOT_GENUINE]
        if self.is_taken(ticket.number):
            return [0]
        if len(self.taken) >= LIST_PLACES:
            return [NO_ROOM]
        self.taken.append((ticket.number, ticket.end))
        return [0]

    def void_tickets(self, place):
        """All tickets of the holder so far are void; 0."""
        if not is_place(place):
            return [OUT_OF_RANGE]
        holder = self.holders[place]
        if holder is None:
            return [NO_HOLDER]
        holder.floor = self.number - 1
        return [0]

    def sweep_list(self, now):
        """Tickets whose end has come are out of the list; how many are left."""
        if not is_time(now):
            return [OUT_OF_RANGE]
        self.taken = [entry for entry in self.taken if entry[1] > now]
        return [len(self.taken)]

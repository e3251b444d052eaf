"""One holder of a house, and what its codes do to it."""

from oncecodes.codes import code_of, secret_states
from oncecodes.refusals import NO_ROOM, NOT_NOW

# 2^60: with a greater counter the holder takes no code any more.
LAST_COUNTER = 0x1000000000000000
CODES_AHEAD = 10
PAIRS_AHEAD = 100
# 2^31 - 1.
LAST_FAILED = 0x7fffffff
FAILURES_TO_LOCK = 5
LOCKED_FOR = 60


class Holder:
    """counter is the least counter whose code is still good, floor the last of its void tickets."""

    def __init__(self, secret, step, digits, first, floor):
        self.secret = secret
        self.step = step
        self.digits = digits
        self.counter = first
        self.failed = 0
        self.until = 0
        self.earned = 0
        self.floor = floor

    def good_counters(self, now):
        """The counters whose codes are good, the least first."""
        if self.step == 0:
            return list(range(self.counter, self.counter + CODES_AHEAD))
        count = now // self.step
        return list(range(max(count - 1, self.counter, 0), count + 2))

    def matching_counter(self, now, code):
        """The least good counter that has this code, or None."""
        if len(code) != self.digits:
            return None
        states = secret_states(self.secret)
        for counter in self.good_counters(now):
            if code_of(states, counter, self.digits) == code:
                return counter
        return None

    def matching_pair(self, codes):
        """The least counter ahead whose code and whose follower's are these two, or None."""
        if len(codes) != 2 * self.digits:
            return None
        states = secret_states(self.secret)
        code = code_of(states, self.counter, self.digits)
        for counter in range(self.counter, self.counter + PAIRS_AHEAD):
            follower = code_of(states, counter + 1, self.digits)
            if code + follower == codes:
                return counter
            code = follower
        return None

    def refusal(self, now):
        """Why no code at all is taken now, or None."""
        if now < self.until:
            return NOT_NOW
        if self.counter > LAST_COUNTER:
            return NO_ROOM
        return None

    def succeed(self, counter):
        """A code was taken: counter is the least whose code is good from now on."""
        self.counter = counter
        self.failed = 0
        self.earned = 1

    def fail(self, now):
        """A code was wrong: from the fifth one in a row on, each locks the holder."""
        self.failed = min(self.failed + 1, LAST_FAILED)
        if self.failed >= FAILURES_TO_LOCK:
            self.until = now + LOCKED_FOR

    def settle(self, now, counter, used):
        """1 if there is a counter: its code and those behind it, as many as were used, aren't good again; else 0."""
        if counter is None:
            self.fail(now)
            return 0
        self.succeed(counter + used)
        return 1

    def take_code(self, now, code):
        """1 if the code was good, which it isn't again, and else 0."""
        return self.settle(now, self.matching_counter(now, code), 1)

    def take_pair(self, now, codes):
        """1 if the two codes were good, which they aren't again, and else 0."""
        return self.settle(now, self.matching_pair(codes), 2)

"""A desk written apart from the program, over numbers that are told by trying all there is."""

from tests.judge import divisor_of, members, sums_below, told_up_to_twelve

# All generators are 12 at the most, so from here on all multiples of the divisor are possible.
END = 300


class Told:
    """The numbers that are possible for an order; `bits` is None if they are not told."""

    def __init__(self, order):
        numbers = told_up_to_twelve(order)
        self.bits = None
        if numbers is not None:
            positive = [number for number in numbers if number]
            self.bits = sums_below(END, positive)
            self.divisor = divisor_of(positive)

    def holds(self, number):
        if number < END:
            return bool(self.bits >> number & 1)
        return self.divisor > 0 and number % self.divisor == 0

    def missing_from(self, start):
        for number in range(start, max(start, END) + 20):
            if not self.holds(number):
                return number
        return None

    def missing_in(self, other):
        return min(members(self.bits & ~other.bits), default=None)


class Model:
    """Its methods return None, or a pair of the name of an error and what that error keeps."""

    def __init__(self, told):
        # `told` gives for the text of an order what is possible for it.
        self.told = told
        self.orders = {}
        self.promised = []
        self.history = []

    def state(self):
        return dict(self.orders), list(self.promised), list(self.history)

    def restore(self, state):
        orders, promised, history = state
        self.orders, self.promised, self.history = dict(orders), list(promised), list(history)

    def changed(self, orders, promised):
        self.history.append((self.orders, self.promised))
        self.orders, self.promised = orders, promised

    def names_of(self, promise):
        return promise[1:] if promise[0] == "within" else promise[1:2]

    def asked(self, orders, promise, index):
        told = [self.told[str(orders[name])] for name in self.names_of(promise)]
        if any(numbers.bits is None for numbers in told):
            return ("TooMany", {"limit": 12})
        word, _, last = promise
        shown = None
        if word == "from":
            shown = told[0].missing_from(last)
            true = shown is None
        elif word == "within":
            shown = told[0].missing_in(told[1])
            true = shown is None
        else:
            true = told[0].holds(last) == (word == "possible")
        return None if true else ("Broken", {"index": index, "shown": shown})

    def put(self, name, order):
        orders = {**self.orders, name: order}
        for index, promise in enumerate(self.promised):
            error = self.asked(orders, promise, index) if name in self.names_of(promise) else None
            if error:
                return error
        self.changed(orders, self.promised)
        return None

    def remove(self, name):
        if name not in self.orders:
            return ("UnknownName", {"given": name})
        for index, promise in enumerate(self.promised):
            if name in self.names_of(promise):
                return ("InUse", {"index": index})
        self.changed({known: order for known, order in self.orders.items() if known != name}, self.promised)
        return None

    def promise(self, promise):
        for name in self.names_of(promise):
            if name not in self.orders:
                return ("UnknownName", {"given": name})
        error = self.asked(self.orders, promise, len(self.promised))
        if error is None:
            self.changed(self.orders, [*self.promised, promise])
        return error

    def lift(self, index):
        if not 0 <= index < len(self.promised):
            return ("InvalidIndex", {"given": index})
        self.changed(self.orders, self.promised[:index] + self.promised[index + 1:])
        return None

    def undo(self):
        if not self.history:
            return ("NothingToUndo", {})
        self.orders, self.promised = self.history.pop()
        return None

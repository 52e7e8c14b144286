"""The state behind a block: the money, the contracts, what is held and what was burnt."""

PEOPLE = 6
VALIDATORS = 4
FIRST_MONEY = 1000
FIRST_HELD = 300


def is_person(number):
    return 1 <= number <= PEOPLE


def is_validator(number):
    return 1 <= number <= VALIDATORS


class State:
    def __init__(self):
        self.money = {}
        self.turns = {}
        for person in range(1, PEOPLE + 1):
            self.money[person] = FIRST_MONEY
            self.turns[person] = 0
        self.held = {}
        for validator in range(1, VALIDATORS + 1):
            self.held[validator] = FIRST_HELD
        self.burnt = 0
        self.codes = {}
        self.slots = {}

    def twin(self):
        other = State()
        other.money = dict(self.money)
        other.turns = dict(self.turns)
        other.held = dict(self.held)
        other.burnt = self.burnt
        other.codes = dict(self.codes)
        for contract in self.slots:
            other.slots[contract] = dict(self.slots[contract])
        return other

    # For a twin on which a call was tried, and that isn't used any more: a call changes nothing else.
    def take_over(self, other):
        self.money = other.money
        self.slots = other.slots

    # Answers whether it could be moved; if not, nothing was.
    def move(self, amount, source, target):
        if target not in self.money or self.money[source] < amount:
            return False
        self.money[source] -= amount
        self.money[target] += amount
        return True

    # Contracts are numbered on behind the people.
    def add_contract(self, code):
        contract = PEOPLE + len(self.codes) + 1
        self.money[contract] = 0
        self.codes[contract] = code
        self.slots[contract] = {}
        return contract

"""What the tests share: the calls written as lists, and ways to look into a world through its calls alone."""

from blockchainbooks.world import answers

ANY = 4294967295


def order(person, number, kind, to, value, gas, price, numbers=()):
    return [0, person, number, kind, to, value, gas, price, len(numbers)] + list(numbers)


def tell(node, number):
    return [1, node, number]


def make(node, maker):
    return [2, node, maker]


def force(block, maker, orders=()):
    return [3, block, maker, len(orders)] + list(orders)


def know(node, block):
    return [4, node, block]


def vote(validator, source, target):
    return [5, validator, source, target]


def hear(node, number):
    return [6, node, number]


def head(node):
    return [7, node]


def block(number):
    return [8, number]


def world(number):
    return [9, number]


def contract(number, account):
    return [10, number, account]


def chain(number):
    return [11, number]


def posts(node):
    return [12, node]


def blame():
    return [13]


def orderof(number):
    return [14, number]


def counts():
    return [15]


def split(told):
    """The answers, call by call."""
    parts = []
    at = 0
    while at < len(told):
        parts.append(told[at + 1:at + 1 + told[at]])
        at += 1 + told[at]
    return parts


def ask_all(calls):
    """The answers to these calls, about one new world."""
    assert 1 <= len(calls) <= 100, len(calls)
    return split(answers([number for call in calls for number in call]))


class World:
    """What the call world answers, taken apart."""

    def __init__(self, answer):
        accounts = answer[0]
        self.money = answer[1:1 + accounts]
        rest = answer[1 + accounts:]
        assert len(rest) == 12, answer
        self.turns = rest[:6]
        self.held = rest[6:10]
        self.burnt = rest[10]
        self.contracts = rest[11]

    def all_money(self):
        return sum(self.money) + sum(self.held) + self.burnt


def endings_told(answer):
    """What the call block answers of how each order ended."""
    told = answer[5 + answer[4]:]
    return [tuple(told[at:at + 3]) for at in range(0, len(told), 3)]


class Scene:
    """A world that grows call by call. What is only looked at leaves no trace in it."""

    def __init__(self):
        self.calls = []
        self.orders = 0

    def ask(self, call):
        answer = ask_all(self.calls + [call])[-1]
        self.calls.append(call)
        if call[0] == 0 and answer[0] >= 0:
            self.orders += 1
        return answer

    def peek(self, *calls):
        """The last answer, as if these calls were made now."""
        return ask_all(self.calls + list(calls))[-1]

    def block(self, below, *orders, maker=6):
        """A new block with these new orders, which must be right; answers its number."""
        numbers = [self.ask(each)[0] for each in orders]
        number, right = self.ask(force(below, maker, numbers))
        assert right == 1, (numbers, orders)
        return number

    def tower(self, below, height):
        """So many empty blocks, one on another; answers the topmost."""
        for _ in range(height):
            below = self.block(below)
        return below

    def would_fit(self, block, probe):
        return self.peek(probe, force(block, 1, [self.orders]))[1] == 1

    def world(self, number):
        """The state behind that block."""
        return World(self.peek(world(number)))

    def turn(self, number, person):
        """The number of the person's order that's next, behind that block."""
        return self.world(number).turns[person - 1]

    def money(self, number, account):
        return self.world(number).money[account - 1]

    def slots(self, number, account):
        """The contract's slots behind that block, each with what it holds."""
        answer = self.peek(contract(number, account))
        told = answer[1 + answer[0]:]
        assert len(told) == 1 + 2 * told[0], answer
        return list(zip(told[1::2], told[2::2]))

    def endings(self, number):
        """How each order of that block ended."""
        return endings_told(self.peek(block(number)))


class Trial:
    """Contract 7 has the code and some money; person 2 calls it at price 1; maker 6 gets the gas.

    Tells how it ended, how much gas was used, whether the call was done, and what persons 4 and 5 got.
    Further contracts, 8 and on, are pairs of code and money.
    """

    def __init__(self, code, money=500, value=1, gas=200, arguments=(), others=()):
        self.scene = Scene()
        made = [order(1, 0, 1, 0, money, 10, 0, code)]
        for at, (other, funds) in enumerate(others):
            made.append(order(3, at, 1, 0, funds, 10, 0, other))
        below = self.scene.block(0, *made)
        self.behind = self.scene.block(below, order(2, 0, 0, 7, value, gas, 1, arguments))
        self.used = self.scene.money(self.behind, 6) - 1000
        self.lost = 1000 - self.used - self.scene.money(self.behind, 2)
        self.done = self.lost == value
        self.ending = self.scene.endings(self.behind)[0]
        assert (self.ending[0] == 0, self.ending[2]) == (self.done, self.used), self.ending
        self.paid = self.scene.money(self.behind, 5) - 1000
        self.paid_4 = self.scene.money(self.behind, 4) - 1000

    def again(self, arguments=(), value=1, gas=200):
        """Person 2 calls contract 7 once more; what person 5 has got in all by then."""
        later = self.scene.block(self.behind, order(2, 1, 0, 7, value, gas, 0, arguments))
        return self.scene.money(later, 5) - 1000


def paying(code):
    """Code that pays person 5 what the given code leaves on top of the stack."""
    return [1, 5] + list(code) + [14]


def showing(code, expected):
    """Code that pays person 5 one if the given code leaves just the expected number on top, else nothing."""
    return [1, 5] + list(code) + [1, expected, 6, 14]

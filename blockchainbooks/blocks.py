"""Blocks: what stands on what, when a block is right, and the orders that a new one takes."""

from blockchainbooks.orders import do_order, fits
from blockchainbooks.state import State

MOST_GAS = 300


class Block:
    def __init__(self, below, height, maker, orders):
        self.below = below
        self.height = height
        self.maker = maker
        self.orders = orders
        self.right = True
        self.state = None
        self.endings = []


def first_block():
    block = Block(0, 0, 0, [])
    block.state = State()
    return block


# Answers how each order ended, or None if they don't fit one after another.
def do_orders(state, numbers, orders, maker):
    endings = []
    gas = 0
    for number in numbers:
        if number >= len(orders) or not fits(state, orders[number]):
            return None
        gas += orders[number].gas
        if gas > MOST_GAS:
            return None
        endings.append(do_order(state, orders[number], maker))
    return endings


# Which orders there are is settled when the block comes: one that comes later doesn't make it right.
def block_on(blocks, below, maker, numbers, orders):
    block = Block(below, blocks[below].height + 1, maker, numbers)
    state = blocks[below].state.twin()
    endings = do_orders(state, numbers, orders, maker)
    if endings is None:
        block.right = False
        block.state = blocks[below].state
    else:
        block.state = state
        block.endings = endings
    return block


# Of as high prices the one that came first.
def best_order(pool, orders, state, gas):
    best = None
    for number in pool:
        order = orders[number]
        if order.gas <= gas and fits(state, order):
            if best is None or order.price > orders[best].price:
                best = number
    return best


# Done on a twin, as each order changes which ones fit behind it; one that is done doesn't fit again.
def orders_to_take(pool, orders, state, maker):
    scratch = state.twin()
    gas = MOST_GAS
    taken = []
    best = best_order(pool, orders, scratch, gas)
    while best is not None:
        do_order(scratch, orders[best], maker)
        gas -= orders[best].gas
        taken.append(best)
        best = best_order(pool, orders, scratch, gas)
    return taken


# Ends with block 0.
def chain_down(blocks, number):
    chain = [number]
    while chain[-1] != 0:
        chain.append(blocks[chain[-1]].below)
    return chain


# A block stands on itself here, too.
def stands_on(blocks, upper, lower):
    at = upper
    while blocks[at].height > blocks[lower].height:
        at = blocks[at].below
    return at == lower


# Of as high ones the one with the lowest number.
def highest(blocks, numbers):
    return min(numbers, key=lambda number: (-blocks[number].height, number))

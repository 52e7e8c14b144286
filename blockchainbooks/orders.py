"""Orders: when one fits a state, and what it does there."""

from blockchainbooks.machine import Call, DONE, run_call

COULD_NOT_BE = 4
PROOF = 2
LEAST_GAS = 10
MOST_CONTRACTS = 8


class Order:
    def __init__(self, wholes, numbers):
        self.person = wholes[0]
        self.number = wholes[1]
        self.kind = wholes[2]
        self.to = wholes[3]
        self.value = wholes[4]
        self.gas = wholes[5]
        self.price = wholes[6]
        self.numbers = numbers
        # Whether its two votes are against one another: settled once, as votes and heights never change.
        self.proven = False


def fits(state, order):
    if order.number != state.turns[order.person] or order.gas < LEAST_GAS:
        return False
    return state.money[order.person] >= order.value + order.gas * order.price


# How it ended is told as three numbers: how, with what, how much gas was used.
def could_not_be(order):
    return (COULD_NOT_BE, 0, order.gas)


def do_payment(state, order):
    if order.to in state.codes:
        call = Call(order.to, order.person, order.value, order.numbers, 1)
        run = run_call(state, call, order.gas - LEAST_GAS)
        return (run.ended, run.result, order.gas - run.gas)
    if not state.move(order.value, order.person, order.to):
        return could_not_be(order)
    return (DONE, 0, LEAST_GAS)


def do_contract(state, order):
    if len(state.codes) == MOST_CONTRACTS:
        return could_not_be(order)
    contract = state.add_contract(order.numbers)
    state.move(order.value, order.person, contract)
    return (DONE, contract, LEAST_GAS)


def do_proof(state, order):
    validator = order.numbers[0]
    if not order.proven or state.held[validator] == 0:
        return could_not_be(order)
    reward = state.held[validator] // 2
    state.money[order.person] += reward
    state.burnt += state.held[validator] - reward
    state.held[validator] = 0
    return (DONE, validator, LEAST_GAS)


DOINGS = (do_payment, do_contract, do_proof)


# The order must fit. Answers how it ended.
def do_order(state, order, maker):
    state.money[order.person] -= order.gas * order.price
    state.turns[order.person] += 1
    ending = DOINGS[order.kind](state, order)
    state.money[order.person] += (order.gas - ending[2]) * order.price
    state.money[maker] += ending[2] * order.price
    return ending

"""The calls on one world, and what each answers."""

from blockchainbooks.blocks import chain_down, orders_to_take
from blockchainbooks.books import Books
from blockchainbooks.orders import LEAST_GAS, Order, PROOF
from blockchainbooks.state import VALIDATORS, is_person, is_validator
from blockchainbooks.votes import Vote, against_one_another, can_be_voted, first_two_against

OUT_OF_BOUNDS = -1
NOT_THERE = -3
NOT_RIGHT = -5
GIVEN_ALREADY = -6
BELOW_UNKNOWN = -8
NO_SUCH_VOTES = -9

HIGHEST_KIND = 2
HIGHEST_VALUE = 1000
HIGHEST_GAS = 200
HIGHEST_PRICE = 20
HIGHEST_NUMBER = 999999
MOST_NUMBERS = 40
MOST_FORCED = 20
PROOF_NUMBERS = 5


def list_told(numbers):
    return [len(numbers)] + numbers


def is_within_bounds(order):
    if not is_person(order.person) or order.kind > HIGHEST_KIND:
        return False
    if order.value > HIGHEST_VALUE or order.price > HIGHEST_PRICE:
        return False
    if order.gas < LEAST_GAS or order.gas > HIGHEST_GAS:
        return False
    return len(order.numbers) <= MOST_NUMBERS and max(order.numbers, default=0) <= HIGHEST_NUMBER


def has_given_votes(books, numbers):
    if len(numbers) != PROOF_NUMBERS:
        return False
    if not books.has_vote(numbers[0], numbers[1], numbers[2]):
        return False
    return books.has_vote(numbers[0], numbers[3], numbers[4])


def answer_order(books, wholes, row):
    order = Order(wholes, row)
    if not is_within_bounds(order):
        return [OUT_OF_BOUNDS]
    if order.kind == PROOF:
        if not has_given_votes(books, row):
            return [NO_SUCH_VOTES]
        one = Vote(row[0], row[1], row[2])
        other = Vote(row[0], row[3], row[4])
        order.proven = against_one_another(books.blocks, one, other)
    return [books.add_order(order)]


def answer_tell(books, wholes, row):
    if wholes[0] not in books.nodes:
        return [OUT_OF_BOUNDS]
    if wholes[1] >= len(books.orders):
        return [NOT_THERE]
    pool = books.nodes[wholes[0]].pool
    if wholes[1] in pool:
        return [0]
    pool.append(wholes[1])
    return [1]


def answer_make(books, wholes, row):
    maker = wholes[1]
    if wholes[0] not in books.nodes or not is_person(maker):
        return [OUT_OF_BOUNDS]
    node = books.nodes[wholes[0]]
    below = books.node_head(wholes[0])
    taken = orders_to_take(node.pool, books.orders, books.blocks[below].state, maker)
    number = books.add_block(below, maker, taken)
    node.learn_block(number, taken)
    return [number, below] + list_told(taken)


def answer_force(books, wholes, row):
    if not books.has_block(wholes[0]) or not is_person(wholes[1]) or len(row) > MOST_FORCED:
        return [OUT_OF_BOUNDS]
    number = books.add_block(wholes[0], wholes[1], row)
    return [number, 1 if books.blocks[number].right else 0]


def answer_know(books, wholes, row):
    if wholes[0] not in books.nodes:
        return [OUT_OF_BOUNDS]
    if not books.has_block(wholes[1]):
        return [NOT_THERE]
    node = books.nodes[wholes[0]]
    block = books.blocks[wholes[1]]
    if wholes[1] in node.blocks:
        return [0]
    if not block.right:
        return [NOT_RIGHT]
    if block.below not in node.blocks:
        return [BELOW_UNKNOWN]
    node.learn_block(wholes[1], block.orders)
    return [1]


def answer_vote(books, wholes, row):
    if not is_validator(wholes[0]) or not can_be_voted(books.blocks, wholes[1], wholes[2]):
        return [OUT_OF_BOUNDS]
    if books.has_vote(wholes[0], wholes[1], wholes[2]):
        return [GIVEN_ALREADY]
    vote = Vote(wholes[0], wholes[1], wholes[2])
    earlier = [other for other in books.votes if other.validator == vote.validator]
    against = any([against_one_another(books.blocks, other, vote) for other in earlier])
    return [books.add_vote(vote), 1 if against else 0]


def answer_hear(books, wholes, row):
    if wholes[0] not in books.nodes:
        return [OUT_OF_BOUNDS]
    if wholes[1] >= len(books.votes):
        return [NOT_THERE]
    heard = books.nodes[wholes[0]].votes
    if wholes[1] in heard:
        return [0]
    heard[wholes[1]] = True
    return [1]


def answer_head(books, wholes, row):
    if wholes[0] not in books.nodes:
        return [OUT_OF_BOUNDS]
    node = books.nodes[wholes[0]]
    head = books.node_head(wholes[0])
    root = books.node_root(wholes[0])
    return [head, books.blocks[head].height, root, len(node.blocks), len(node.votes), len(node.pool)]


def answer_block(books, wholes, row):
    if not books.has_block(wholes[0]):
        return [NOT_THERE]
    block = books.blocks[wholes[0]]
    answer = [block.below, block.height, block.maker, 1 if block.right else 0] + list_told(block.orders)
    for ending in block.endings:
        answer.extend(ending)
    return answer


def answer_world(books, wholes, row):
    if not books.has_block(wholes[0]):
        return [NOT_THERE]
    state = books.blocks[wholes[0]].state
    answer = list_told(list(state.money.values()))
    answer.extend(list(state.turns.values()))
    answer.extend(list(state.held.values()))
    return answer + [state.burnt, len(state.codes)]


def answer_contract(books, wholes, row):
    if not books.has_block(wholes[0]):
        return [NOT_THERE]
    state = books.blocks[wholes[0]].state
    if wholes[1] not in state.codes:
        return [NOT_THERE]
    slots = state.slots[wholes[1]]
    answer = list_told(state.codes[wholes[1]]) + [len(slots)]
    for slot in slots:
        answer.extend([slot, slots[slot]])
    return answer


def answer_chain(books, wholes, row):
    if not books.has_block(wholes[0]):
        return [NOT_THERE]
    return list_told(chain_down(books.blocks, wholes[0]))


def answer_posts(books, wholes, row):
    if wholes[0] not in books.nodes:
        return [OUT_OF_BOUNDS]
    return list_told(books.node_standing(wholes[0])) + list_told(books.node_lasting(wholes[0]))


def answer_blame(books, wholes, row):
    blamed = 0
    pairs = []
    for validator in range(1, VALIDATORS + 1):
        pair = first_two_against(books.blocks, books.votes, validator)
        if pair is not None:
            blamed += 1
            pairs.extend([validator, pair[0], pair[1]])
    return [blamed] + pairs


def answer_orderof(books, wholes, row):
    if wholes[0] >= len(books.orders):
        return [NOT_THERE]
    order = books.orders[wholes[0]]
    told = [order.person, order.number, order.kind, order.to, order.value, order.gas, order.price]
    return told + list_told(order.numbers)


def answer_counts(books, wholes, row):
    return [len(books.orders), len(books.blocks), len(books.votes)]


# By the call's number: what answers it, how many whole numbers it has; then those that have a row behind these.
ANSWERS = (
    answer_order, answer_tell, answer_make, answer_force, answer_know, answer_vote, answer_hear, answer_head,
    answer_block, answer_world, answer_contract, answer_chain, answer_posts, answer_blame, answer_orderof,
    answer_counts,
)
WHOLES = (7, 2, 2, 2, 2, 3, 2, 1, 1, 1, 2, 1, 1, 0, 1, 0)
WITH_ROW = (0, 3)


def answers(calls):
    books = Books()
    told = []
    at = 0
    while at < len(calls):
        kind = calls[at]
        end = at + 1 + WHOLES[kind]
        wholes = calls[at + 1:end]
        row = []
        if kind in WITH_ROW:
            row = calls[end + 1:end + 1 + calls[end]]
            end += 1 + len(row)
        answer = ANSWERS[kind](books, wholes, row)
        told.append(len(answer))
        told.extend(answer)
        at = end
    return told

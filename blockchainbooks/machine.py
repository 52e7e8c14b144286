"""The machine: it runs the code of a contract, instruction by instruction, for gas."""

DONE = 0
GIVEN_UP = 1
FAILED = 2
OUT_OF_GAS = 3

MODULUS = 1000000
MOST_ON_STACK = 12
DEEPEST = 4


class Call:
    def __init__(self, contract, caller, value, arguments, depth):
        self.contract = contract
        self.caller = caller
        self.value = value
        self.arguments = arguments
        self.depth = depth


# A call that runs; how it ended is None as long as it has not.
class Run:
    def __init__(self, state, call, gas):
        self.state = state
        self.call = call
        self.gas = gas
        self.code = state.codes[call.contract]
        self.at = 0
        self.stack = []
        self.ended = None
        self.result = 0

    def put(self, number):
        if len(self.stack) == MOST_ON_STACK:
            self.ended = FAILED
        else:
            self.stack.append(number)

    # Top first, as the instructions are told.
    def take(self, many):
        taken = []
        while len(taken) < many:
            taken.append(self.stack.pop())
        return taken


def do_stop(run, taken):
    run.ended = DONE


def do_push(run, taken):
    if run.at < len(run.code):
        run.put(run.code[run.at])
        run.at += 1
    else:
        run.ended = FAILED


def do_add(run, taken):
    run.put((taken[1] + taken[0]) % MODULUS)


def do_subtract(run, taken):
    if taken[1] < taken[0]:
        run.ended = FAILED
    else:
        run.put(taken[1] - taken[0])


def do_multiply(run, taken):
    run.put(taken[1] * taken[0] % MODULUS)


def do_less(run, taken):
    run.put(1 if taken[1] < taken[0] else 0)


def do_same(run, taken):
    run.put(1 if taken[1] == taken[0] else 0)


def do_read_slot(run, taken):
    run.put(run.state.slots[run.call.contract].get(taken[0], 0))


# Taken out first, so that the slots lie in the order in which they were put last.
def do_write_slot(run, taken):
    slots = run.state.slots[run.call.contract]
    slots.pop(taken[1], None)
    slots[taken[1]] = taken[0]


def do_caller(run, taken):
    run.put(run.call.caller)


def do_value(run, taken):
    run.put(run.call.value)


def do_argument(run, taken):
    arguments = run.call.arguments
    run.put(arguments[taken[0]] if taken[0] < len(arguments) else 0)


def do_jump(run, taken):
    run.at = taken[0]


def do_jump_if(run, taken):
    if taken[1] != 0:
        run.at = taken[0]


def do_pay(run, taken):
    if not run.state.move(taken[0], run.call.contract, taken[1]):
        run.ended = FAILED


def do_call(run, taken):
    if run.call.depth == DEEPEST:
        run.ended = FAILED
        return
    here = run.call.contract
    went_well = 0
    result = 0
    if taken[2] in run.state.codes and run.state.money[here] >= taken[0]:
        inner = run_call(run.state, Call(taken[2], here, taken[0], [taken[1]], run.call.depth + 1), run.gas)
        run.gas = inner.gas
        went_well = 1 if inner.ended == DONE else 0
        result = inner.result
    run.put(went_well)
    run.put(result)


def do_give_up(run, taken):
    run.ended = GIVEN_UP


def do_answer(run, taken):
    run.ended = DONE
    run.result = taken[0]


def do_money(run, taken):
    run.put(run.state.money[run.call.contract])


def do_double(run, taken):
    run.put(taken[0])
    run.put(taken[0])


def do_swap(run, taken):
    run.put(taken[0])
    run.put(taken[1])


def do_drop(run, taken):
    pass


# By the instruction's number: what does it, how many it needs on the stack, what it costs.
DOINGS = (
    do_stop, do_push, do_add, do_subtract, do_multiply, do_less, do_same, do_read_slot, do_write_slot, do_caller,
    do_value, do_argument, do_jump, do_jump_if, do_pay, do_call, do_give_up, do_answer, do_money, do_double,
    do_swap, do_drop,
)
NEEDS = (0, 0, 2, 2, 2, 2, 2, 1, 2, 0, 0, 1, 1, 2, 2, 3, 0, 1, 0, 1, 2, 1)
COSTS = (1, 1, 1, 1, 1, 1, 1, 1, 5, 1, 1, 1, 1, 1, 5, 10, 1, 1, 1, 1, 1, 1)


# A number that is no instruction is paid for like one before it is found out.
def cost_of(instruction):
    return COSTS[instruction] if instruction < len(COSTS) else 1


def can_be_done(run, instruction):
    return instruction < len(NEEDS) and len(run.stack) >= NEEDS[instruction]


def step(run):
    if run.at >= len(run.code):
        run.ended = DONE
        return
    instruction = run.code[run.at]
    if run.gas < cost_of(instruction):
        run.gas = 0
        run.ended = OUT_OF_GAS
        return
    run.gas -= cost_of(instruction)
    if not can_be_done(run, instruction):
        run.ended = FAILED
        return
    run.at += 1
    DOINGS[instruction](run, run.take(NEEDS[instruction]))


# The contract and the value must be there. It runs on a twin, so that what is taken back was never done.
def run_call(state, call, gas):
    tried = state.twin()
    tried.move(call.value, call.caller, call.contract)
    run = Run(tried, call, gas)
    while run.ended is None:
        step(run)
    if run.ended == DONE:
        state.take_over(tried)
    return run

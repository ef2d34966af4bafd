"""What each instruction does to a computer; what it returns is its effect."""

from fairweather.shorts import ACTS

MOST_MEMORY = 1000
MOST_STACK = 1000
MOST_DISK = 200
MOST_WAITING = 400


def push_short(computer, short):
    """Lays a short on the stack; on a full one it is lost."""
    if len(computer.pile) < MOST_STACK:
        computer.pile.append(short)


def popped(computer):
    """The short that is taken from the stack: 0 from an empty one."""
    return computer.pile.pop() if computer.pile else 0


def do_push(computer, short):
    """Pushes a short."""
    push_short(computer, short)


def do_load(computer, address):
    """Pushes what the memory has at an address."""
    push_short(computer, computer.held[address])


def do_store(computer, address):
    """Pops a short to an address of the memory."""
    computer.held[address] = popped(computer)


def do_fetch(computer, _):
    """Pops an address, and pushes what the memory has there."""
    address = popped(computer)
    push_short(computer, computer.held[address] if 0 <= address < MOST_MEMORY else 0)


def do_put(computer, _):
    """Pops an address, then a short, which the memory has there then."""
    address = popped(computer)
    short = popped(computer)
    if 0 <= address < MOST_MEMORY:
        computer.held[address] = short


def do_sign(computer, act):
    """Pops other, then one, and pushes what a sign makes of them."""
    other = popped(computer)
    one = popped(computer)
    push_short(computer, act(one, other))


def do_not(computer, _):
    """Pops a short, and pushes whether it is 0."""
    push_short(computer, 1 if popped(computer) == 0 else 0)


def do_drop(computer, _):
    """Pops a short."""
    popped(computer)


def do_copy(computer, _):
    """Pops a short, and pushes it twice."""
    short = popped(computer)
    push_short(computer, short)
    push_short(computer, short)


def do_jump(computer, row):
    """Goes to a row."""
    computer.at = row


def do_unless(computer, row):
    """Pops a short, and goes to a row for 0."""
    if popped(computer) == 0:
        computer.at = row


def do_read(computer, _):
    """Pops an address, and pushes what was written there last on the disk."""
    address = popped(computer)
    push_short(computer, computer.written[address] if 0 <= address < MOST_DISK else 0)


def do_write(computer, _):
    """Pops an address, then a short, which waits to be there on the disk."""
    address = popped(computer)
    short = popped(computer)
    if not 0 <= address < MOST_DISK or len(computer.queue) == MOST_WAITING:
        return None
    computer.queue.append((address, short))
    computer.written[address] = short
    return ("wrote", address, short)


def do_barrier(computer, _):
    """Settles all that waits."""
    pairs = tuple(computer.queue)
    for address, short in pairs:
        computer.settled[address] = short
    computer.queue = []
    return ("settled", pairs)


def do_send(computer, place):
    """Pops an old word, a new word and a number: a letter, which goes to a place."""
    old = popped(computer)
    new = popped(computer)
    number = popped(computer)
    return ("sent", place, (number, new, old))


def do_take(computer, place):
    """Takes away the letter on a card, and pushes it from behind, then 1; 0 if none lies there."""
    letter = computer.laid[place]
    if letter is None:
        push_short(computer, 0)
    else:
        computer.laid[place] = None
        push_short(computer, letter[2])
        push_short(computer, letter[1])
        push_short(computer, letter[0])
        push_short(computer, 1)


def do_input(computer, _):
    """Pushes the short that is given at the keyboard."""
    push_short(computer, computer.given)
    return ("typed", computer.given)


def do_show(computer, _):
    """Pops a place of the screen, then the short that is shown there."""
    place = popped(computer)
    short = popped(computer)
    return ("shown", place, short)


def do_wait(computer, _):
    """Waits."""
    return ("waits",)


# The function of each instruction, besides the signs.
DEEDS = {
    "push": do_push,
    "load": do_load,
    "store": do_store,
    "fetch": do_fetch,
    "put": do_put,
    "not": do_not,
    "drop": do_drop,
    "copy": do_copy,
    "jump": do_jump,
    "unless": do_unless,
    "read": do_read,
    "write": do_write,
    "barrier": do_barrier,
    "send": do_send,
    "take": do_take,
    "input": do_input,
    "show": do_show,
    "wait": do_wait,
}


def deed_of_row(row):
    """The function that does an instruction, and what it is passed besides the computer."""
    if row[0] in ACTS:
        act = ACTS[row[0]]
        return (do_sign, act)
    deed = DEEDS[row[0]]
    return (deed, row[1] if len(row) == 2 else 0)

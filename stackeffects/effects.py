"""Texts of effects: which are one effect's, where the others have their fault, an effect's form, weight and instances.

A text is a list of bytes. What lies on a stack's row above its variable is called an item here.
A token is a tuple: its kind, its number and the place of its first byte. Its kind is the token itself if it
is one of FIXED, else "ROW" or "ITEM" for a variable, and "BAD" for what no effect's text holds. Its number
is a variable's own, and 0 for every other token.
A node is a tuple: for a leaf, the kind and the number of its token; for all else, a sign of PARTS and the numbers
of the nodes that are its parts. A row is its variable alone, or a "row" of what lies below and the uppermost item.
"""

LONGEST = 1024
DEEPEST = 40
HEAVIEST = 120
LETTERS = 26

BLANKS = (32, 9, 10, 13)
FIXED = ("(", ")", "[", "]", ",", "--", "num", "bool", "list", "pair")

# What is still awaited is a list whose last member is awaited next, so that it can be taken off the end.
# Besides kinds of tokens it holds "item", for one item, and "items", for any number of them.
EFFECT = ("items", "ROW", "--", "items", "ROW")

# Each kind that an item can begin with, and what is awaited behind it until that item ends.
ITEM_STARTS = {
    "num": (),
    "bool": (),
    "ITEM": (),
    "list": (")", "item", "("),
    "pair": (")", "item", ",", "item", "("),
    "[": ("]", "items", "ROW", "--", "items", "ROW"),
}

VARIABLES = ("ROW", "ITEM")
LEAVES = ("ROW", "ITEM", "num", "bool")
HOLDER_ENDS = (")", "]")
ITEM_ENDS = ("ITEM", "num", "bool", ")", "]")

# How many parts a node has that is no leaf.
PARTS = {"list": 1, "pair": 2, "[": 2, "row": 2}


def judge(t):
    """Answers 0 if t is an effect's text, else the refusal that is due."""
    refusal = refusal_of([t])
    if refusal is not None:
        return refusal
    return [0]


def form(t):
    """Answers 0 and the effect's text with its variables named in order, else the refusal that is due."""
    refusal = refusal_of([t])
    if refusal is not None:
        return refusal
    tokens = tokens_of(t)
    if weight_of(tokens) > HEAVIEST:
        return [-5]
    text = written(named_in_order(tokens))
    return [0, len(text)] + text


def weight(t):
    """Answers the weight of t's effect, else the refusal that is due."""
    refusal = refusal_of([t])
    if refusal is not None:
        return refusal
    return [weight_of(tokens_of(t))]


def has(t, u):
    """Answers 1 if u's effect is one of the instances of t's, 0 if it is none, else the refusal that is due."""
    refusal = refusal_of([t, u])
    if refusal is not None:
        return refusal
    numbers = {}
    general = rows_of(tokens_of(t), numbers)
    special = rows_of(tokens_of(u), numbers)
    return [1 if comes_of(special, general, list(numbers)) else 0]


def refusal_of(texts):
    """The refusal that is due for these texts, None if each is an effect's and none is too long."""
    if any([len(text) > LONGEST for text in texts]):
        return [-6]
    for which, text in enumerate(texts, start=1):
        place = fault_place(text)
        if place is not None:
            return [-1, which, place]
    return None


def fault_place(t):
    """The place of the first token that can't be, the text's length if it ends too early, None without a fault."""
    awaited = list(EFFECT)
    for kind, number, place in tokens_of(t):
        awaited = awaited_behind(kind, awaited)
        if awaited is None or too_deep(awaited):
            return place
    if awaited == ["items"]:
        return None
    return len(t)


def awaited_behind(kind, awaited):
    """What is awaited when a token of this kind has come, None if it can't come."""
    rest = list(awaited)
    if rest[-1] == "items" and kind not in ITEM_STARTS:
        rest.pop()
    if rest == []:
        return None
    wanted = rest[-1]
    if wanted == "items":
        return rest + list(ITEM_STARTS[kind])
    rest.pop()
    if wanted == "item" and kind in ITEM_STARTS:
        return rest + list(ITEM_STARTS[kind])
    if wanted == kind:
        return rest
    return None


def too_deep(awaited):
    """Whether too many lists, pairs and [ ] are open: each of them awaits one sign that closes it."""
    return awaited.count(")") + awaited.count("]") > DEEPEST


def tokens_of(t):
    """The tokens of the text t, from the left."""
    tokens = []
    place = 0
    while place < len(t):
        end = token_end(t, place)
        if t[place] not in BLANKS:
            part = t[place:end]
            kind = kind_of(part)
            tokens.append((kind, number_of(kind, part), place))
        place = end
    return tokens


def token_end(t, place):
    """The place behind the token, or the blank, that begins at this place."""
    if t[place:place + 2] == bytes_of("--"):
        return place + 2
    end = place
    while end < len(t) and in_run(t[end]):
        end += 1
    # A byte that is in no run stands by itself.
    return max(end, place + 1)


def kind_of(part):
    """The kind of the token with these bytes."""
    for kind in FIXED:
        if part == bytes_of(kind):
            return kind
    if not is_variable(part):
        return "BAD"
    return "ROW" if is_capital(part[0]) else "ITEM"


def number_of(kind, part):
    """The number of a variable with these bytes, 0 for any other kind."""
    if kind not in VARIABLES:
        return 0
    rounds = 0
    for byte in part[1:]:
        rounds = rounds * 10 + byte - 48
    return rounds * LETTERS + part[0] - first_letter(kind)


def first_letter(kind):
    return 65 if kind == "ROW" else 97


def is_variable(part):
    """Whether these bytes are a letter and up to three digits without a 0 in front."""
    digits = part[1:]
    if not is_letter(part[0]) or len(digits) > 3:
        return False
    if not all([is_digit(byte) for byte in digits]):
        return False
    return digits == [] or digits[0] != 48


def weight_of(tokens):
    """The weight of an effect: each item and each row's variable adds 1, wherever it stands."""
    return len([kind for kind, number, place in tokens if kind == "ROW" or kind in ITEM_STARTS])


def named_in_order(tokens):
    """The same tokens, with each kind's numbers 0, 1, 2, ... as they are met."""
    named = []
    orders = {}
    for kind, number, place in tokens:
        order = orders.setdefault(kind, {})
        # What is no variable has one number, 0, and so keeps it.
        named.append((kind, order.setdefault(number, len(order)), place))
    return named


def written(tokens):
    """The text of an effect's tokens, with no blanks but those that an effect is written with."""
    text = []
    before = ""
    for kind, number, place in tokens:
        if before not in ("", "(", "[", ",") and kind not in ("(", ")", "]", ","):
            text.append(32)
        text.extend(token_bytes(kind, number))
        before = kind
    return text


def token_bytes(kind, number):
    """The bytes of a token of this kind with this number."""
    if kind not in VARIABLES:
        return bytes_of(kind)
    letter = [first_letter(kind) + number % LETTERS]
    if number < LETTERS:
        return letter
    return letter + bytes_of(str(number // LETTERS))


def rows_of(tokens, numbers):
    """The numbers of the nodes of an effect's two rows; numbers, a dict, gets those nodes that it hasn't yet."""
    built = []
    # The items of the whole effect stand in its rows as those of an effect within [ ] do.
    holders = ["["]
    for kind, number, place in tokens:
        if kind in PARTS:
            holders.append(kind)
        if kind in LEAVES:
            built.append(number_in(numbers, (kind, number)))
        if kind in HOLDER_ENDS:
            built = joined(built, holders.pop(), numbers)
        if kind in ITEM_ENDS and holders[-1] == "[":
            built = joined(built, "row", numbers)
    return built


def joined(built, sign, numbers):
    """What is built, with the node of this sign in the place of its parts, which were built last."""
    first = len(built) - PARTS[sign]
    node = tuple([sign] + built[first:])
    return built[:first] + [number_in(numbers, node)]


def number_in(numbers, node):
    """The node's number: the same nodes have the same one, so that whole rows and items are compared at once."""
    return numbers.setdefault(node, len(numbers))


def comes_of(special, general, nodes):
    """Whether the rows of special come of those of general when rows and items are put for general's variables."""
    put = {}
    pairs = list(zip(special, general))
    while pairs != []:
        pair = pairs.pop()
        node = nodes[pair[0]]
        pattern = nodes[pair[1]]
        if pattern[0] in VARIABLES:
            if put.setdefault(pattern, node) != node:
                return False
        elif pattern[0] != node[0]:
            return False
        elif pattern[0] in PARTS:
            pairs.extend(list(zip(node[1:], pattern[1:])))
    return True


def in_run(byte):
    return is_letter(byte) or is_digit(byte)


def is_letter(byte):
    return is_capital(byte) or is_small(byte)


def is_capital(byte):
    return 65 <= byte <= 90


def is_small(byte):
    return 97 <= byte <= 122


def is_digit(byte):
    return 48 <= byte <= 57


def bytes_of(text):
    return [ord(sign) for sign in text]

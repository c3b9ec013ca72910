"""Texts of effects: which are one effect's and where the others have their fault; an effect's form, weight and
instances; what comes of two effects, one after the other; and the built-in words' effects.

A text is a list of bytes. What lies on a stack's row above its variable is called an item here.
A token is a tuple: its kind, its number and the place of its first byte. Its kind is the token itself if it
is one of FIXED, else "ROW" or "ITEM" for a variable, and "BAD" for what no effect's text holds. Its number
is a variable's own, and 0 for every other token. A token that was not read from a text has the place 0.
A node is a tuple: for a leaf, the kind and the number of its token; for all else, a sign of SPELLED and the numbers
of the nodes that are its parts. A row is its variable alone, or a "row" of what lies below and the uppermost item.
"""

LONGEST = 1024
DEEPEST = 40
HEAVIEST = 120
LETTERS = 26

BLANKS = (32, 9, 10, 13)
FIXED = ("(", ")", "[", "]", ",", "--", "num", "bool", "list", "pair")

# What is still awaited is a list whose last member is awaited next, so that it can be taken off the end.
# Besides kinds of tokens it holds "item", for one item, and "items", for any number of them.
EFFECT = ("items", "ROW", "--", "items", "ROW")

# Each kind that an item can begin with, and what is awaited behind it until that item ends.
ITEM_STARTS = {
    "num": (),
    "bool": (),
    "ITEM": (),
    "list": (")", "item", "("),
    "pair": (")", "item", ",", "item", "("),
    "[": ("]", "items", "ROW", "--", "items", "ROW"),
}

VARIABLES = ("ROW", "ITEM")
LEAVES = ("ROW", "ITEM", "num", "bool")
HOLDER_ENDS = (")", "]")
ITEM_ENDS = ("ITEM", "num", "bool", ")", "]")

# The tokens of each node that is no leaf, with the numbers of its parts, from 1, where those have their tokens.
SPELLED = {
    "list": ("list", "(", 1, ")"), "pair": ("pair", "(", 1, ",", 2, ")"), "[": ("[", 1, "--", 2, "]"), "row": (1, 2),
}

WORDS = {
    "dup": "A a -- A a a", "drop": "A a -- A", "swap": "A a b -- A b a", "over": "A a b -- A a b a",
    "rot": "A a b c -- A b c a",
    "+": "A num num -- A num", "-": "A num num -- A num", "*": "A num num -- A num",
    "/": "A num num -- A num", "mod": "A num num -- A num",
    "=": "A num num -- A bool", "<": "A num num -- A bool",
    "not": "A bool -- A bool", "and": "A bool bool -- A bool", "or": "A bool bool -- A bool",
    "apply": "A [A -- B] -- B", "dip": "A a [A -- B] -- B a",
    "if": "A bool [A -- B] [A -- B] -- B", "while": "A [A -- A bool] [A -- A] -- A",
    "compose": "A [B -- C] [C -- D] -- A [B -- D]", "curry": "A a [B a -- C] -- A [B -- C]",
    "unit": "A a -- A [B -- B a]", "fix": "A [B [B -- C] -- C] -- A [B -- C]",
    "nil": "A -- A list(a)", "cons": "A a list(a) -- A list(a)",
    "case": "A list(a) [A -- B] [A a list(a) -- B] -- B", "each": "A list(a) [A a -- A] -- A",
    "pair": "A a b -- A pair(a,b)", "unpair": "A pair(a,b) -- A a b",
}


def judge(t):
    """Answers 0 if t is an effect's text, else the refusal that is due."""
    refusal = refusal_of([t])
    if refusal is not None:
        return refusal
    return [0]


def form(t):
    """Answers 0 and the effect's text with its variables named in order, else the refusal that is due."""
    refusal = refusal_of([t])
    if refusal is not None:
        return refusal
    tokens = tokens_of(t)
    if weight_of(tokens) > HEAVIEST:
        return [-5]
    return text_answer(written(named_in_order(tokens)))


def weight(t):
    """Answers the weight of t's effect, else the refusal that is due."""
    refusal = refusal_of([t])
    if refusal is not None:
        return refusal
    return [weight_of(tokens_of(t))]


def has(t, u):
    """Answers 1 if u's effect is one of the instances of t's, 0 if it is none, else the refusal that is due."""
    refusal = refusal_of([t, u])
    if refusal is not None:
        return refusal
    numbers = {}
    general = rows_of(tokens_of(t), numbers)
    fixed = len(numbers)
    special = rows_of(kept_apart(tokens_of(u)), numbers)
    equal = made_equal(list(zip(general, special)), list(numbers), fixed)
    return [0 if equal is None else 1]


def then(t, u):
    """Answers 0 and the text of what comes of t's effect and then u's, 1 if nothing does, else the refusal due."""
    refusal = refusal_of([t, u])
    if refusal is not None:
        return refusal
    numbers = {}
    first = rows_of(tokens_of(t), numbers)
    second = rows_of(kept_apart(tokens_of(u)), numbers)
    nodes = made_equal([(first[1], second[0])], list(numbers), len(numbers))
    # The row between has no place in the answer, but a variable that stands within itself may be in it alone.
    weights = None if nodes is None else weights_in(nodes, [first[0], first[1], second[1]])
    if weights is None:
        return [1]
    if weights[first[0]] + weights[second[1]] > HEAVIEST:
        return [-5]
    return text_answer(written(named_in_order(spelled(nodes, [first[0], "--", second[1]]))))


def word(w):
    """Answers 0 and the text of the effect of the built-in word w, -2 if there is no such word."""
    for name in WORDS:
        if bytes_of(name) == w:
            return text_answer(bytes_of(WORDS[name]))
    return [-2]


def text_answer(text):
    return [0, len(text)] + text


def refusal_of(texts):
    """The refusal that is due for these texts, None if each is an effect's and none is too long."""
    if any([len(text) > LONGEST for text in texts]):
        return [-6]
    for which, text in enumerate(texts, start=1):
        place = fault_place(text)
        if place is not None:
            return [-1, which, place]
    return None


def fault_place(t):
    """The place of the first token that can't be, the text's length if it ends too early, None without a fault."""
    awaited = list(EFFECT)
    for kind, number, place in tokens_of(t):
        awaited = awaited_behind(kind, awaited)
        if awaited is None or too_deep(awaited):
            return place
    if awaited == ["items"]:
        return None
    return len(t)


def awaited_behind(kind, awaited):
    """What is awaited when a token of this kind has come, None if it can't come."""
    rest = list(awaited)
    if rest[-1] == "items" and kind not in ITEM_STARTS:
        rest.pop()
    if rest == []:
        return None
    wanted = rest[-1]
    if wanted == "items":
        return rest + list(ITEM_STARTS[kind])
    rest.pop()
    if wanted == "item" and kind in ITEM_STARTS:
        return rest + list(ITEM_STARTS[kind])
    if wanted == kind:
        return rest
    return None


def too_deep(awaited):
    """Whether too many lists, pairs and [ ] are open: each of them awaits one sign that closes it."""
    return awaited.count(")") + awaited.count("]") > DEEPEST


def tokens_of(t):
    """The tokens of the text t, from the left."""
    tokens = []
    place = 0
    while place < len(t):
        end = token_end(t, place)
        if t[place] not in BLANKS:
            part = t[place:end]
            kind = kind_of(part)
            tokens.append((kind, number_of(kind, part), place))
        place = end
    return tokens


def token_end(t, place):
    """The place behind the token, or the blank, that begins at this place."""
    if t[place:place + 2] == bytes_of("--"):
        return place + 2
    end = place
    while end < len(t) and (is_letter(t[end]) or is_digit(t[end])):
        end += 1
    # A byte that is in no run stands by itself.
    return max(end, place + 1)


def kind_of(part):
    """The kind of the token with these bytes."""
    for kind in FIXED:
        if part == bytes_of(kind):
            return kind
    if not is_variable(part):
        return "BAD"
    return "ROW" if is_capital(part[0]) else "ITEM"


def number_of(kind, part):
    """The number of a variable with these bytes, 0 for any other kind."""
    if kind not in VARIABLES:
        return 0
    rounds = 0
    for byte in part[1:]:
        rounds = rounds * 10 + byte - 48
    return rounds * LETTERS + part[0] - first_letter(kind)


def first_letter(kind):
    return 65 if kind == "ROW" else 97


def is_variable(part):
    """Whether these bytes are a letter and up to three digits without a 0 in front."""
    digits = part[1:]
    if not is_letter(part[0]) or len(digits) > 3:
        return False
    if not all([is_digit(byte) for byte in digits]):
        return False
    return digits == [] or digits[0] != 48


def weight_of(tokens):
    """The weight of an effect: each item and each row's variable adds 1, wherever it stands."""
    return len([kind for kind, number, place in tokens if kind == "ROW" or kind in ITEM_STARTS])


def named_in_order(tokens):
    """The same tokens, with each kind's numbers 0, 1, 2, ... as they are met."""
    named = []
    orders = {}
    for kind, number, place in tokens:
        order = orders.setdefault(kind, {})
        # What is no variable has one number, 0, and so keeps it.
        named.append((kind, order.setdefault(number, len(order)), place))
    return named


def written(tokens):
    """The text of an effect's tokens, with no blanks but those that an effect is written with."""
    text = []
    before = ""
    for kind, number, place in tokens:
        if before not in ("", "(", "[", ",") and kind not in ("(", ")", "]", ","):
            text.append(32)
        text.extend(token_bytes(kind, number))
        before = kind
    return text


def token_bytes(kind, number):
    """The bytes of a token of this kind with this number."""
    if kind not in VARIABLES:
        return bytes_of(kind)
    letter = [first_letter(kind) + number % LETTERS]
    if number < LETTERS:
        return letter
    return letter + bytes_of(str(number // LETTERS))


def rows_of(tokens, numbers):
    """The numbers of the nodes of an effect's two rows; numbers, a dict, gets those nodes that it hasn't yet."""
    built = []
    # The items of the whole effect stand in its rows as those of an effect within [ ] do.
    holders = ["["]
    for kind, number, place in tokens:
        if kind in SPELLED:
            holders.append(kind)
        if kind in LEAVES:
            built.append(numbers.setdefault((kind, number), len(numbers)))
        if kind in HOLDER_ENDS:
            built = joined(built, holders.pop(), numbers)
        if kind in ITEM_ENDS and holders[-1] == "[":
            built = joined(built, "row", numbers)
    return built


def joined(built, sign, numbers):
    """What is built, with the node of this sign in the place of its parts, which were built last."""
    first = len(built) - (1 if sign == "list" else 2)
    node = tuple([sign] + built[first:])
    return built[:first] + [numbers.setdefault(node, len(numbers))]


def kept_apart(tokens):
    """The same tokens, with numbers below 0 for variables, which those of another text can't have."""
    return [(kind, -1 - number if kind in VARIABLES else number, place) for kind, number, place in tokens]


def made_equal(pairs, nodes, fixed):
    """The node that stands for each number when both numbers of each pair are made equal, None if they can't be.

    Variables with a number below fixed give way, those from there on stand for themselves. Nothing more is made
    equal than has to be. Whether a variable would have to stand within itself is not seen here.
    """
    stands = {}
    waiting = list(pairs)
    while waiting != []:
        pair = waiting.pop()
        one = standing(stands, pair[0])
        other = standing(stands, pair[1])
        if one == other:
            continue
        if gives_way(nodes, one, fixed):
            stands[one] = other
        elif gives_way(nodes, other, fixed):
            stands[other] = one
        elif nodes[one][0] != nodes[other][0] or nodes[one][0] in LEAVES:
            return None
        else:
            stands[one] = other
            waiting.extend(list(zip(nodes[one][1:], nodes[other][1:])))
    return [nodes[standing(stands, number)] for number in range(len(nodes))]


def standing(stands, number):
    """The number that stands for this one in the end."""
    while number in stands:
        number = stands[number]
    return number


def gives_way(nodes, number, fixed):
    return number < fixed and nodes[number][0] in VARIABLES


def weights_in(nodes, roots):
    """The weights of the roots and of all within them, by number; None if one of these stands within itself.

    Each is weighed once: written out, they may be far too many.
    """
    weights = {}
    entered = {}
    waiting = list(roots)
    while waiting != []:
        number = waiting[-1]
        sign = nodes[number][0]
        parts = () if sign in LEAVES else nodes[number][1:]
        missing = [part for part in parts if part not in weights]
        if missing == []:
            weights[number] = sum([weights[part] for part in parts]) + (0 if sign == "row" else 1)
            waiting.pop()
        elif number in entered:
            return None
        else:
            entered[number] = True
            waiting.extend(missing)
    return weights


def spelled(nodes, pieces):
    """The tokens of these pieces, each a token's kind or a node's number."""
    tokens = []
    waiting = list(reversed(pieces))
    while waiting != []:
        piece = waiting.pop()
        if isinstance(piece, str):
            tokens.append((piece, 0, 0))
        elif nodes[piece][0] in LEAVES:
            tokens.append((nodes[piece][0], nodes[piece][1], 0))
        else:
            node = nodes[piece]
            parts = [part if isinstance(part, str) else node[part] for part in SPELLED[node[0]]]
            waiting.extend(list(reversed(parts)))
    return tokens


def is_letter(byte):
    return is_capital(byte) or 97 <= byte <= 122


def is_capital(byte):
    return 65 <= byte <= 90


def is_digit(byte):
    return 48 <= byte <= 57


def bytes_of(text):
    return [ord(sign) for sign in text]

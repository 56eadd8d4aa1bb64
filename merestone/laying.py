"""Programs of partitions: pieces of code as words.

A piece is short if what it needs is near, and long otherwise. Words of the program's own are near if they are among
the 16 behind the one that the register BASE tells; a place is near if a branch reaches it.
"""

from merestone.codes import encode
from merestone.generating import ASIDE, BASE
from merestone.words import wrap

# The kinds of pieces that reach words of the program's own, and those that reach places. What they reach comes last.
REACHING_WORDS = ("load", "store", "fetch", "keep")
REACHING_PLACES = ("jump", "branch")

# How many words a piece takes if it is short, and if it is long.
LENGTHS = {
    "label": (0, 0),
    "code": (1, 1),
    "constant": (2, 2),
    "load": (1, 3),
    "store": (1, 3),
    "fetch": (2, 4),
    "keep": (2, 4),
    "jump": (1, 3),
    "branch": (1, 4),
}

# How far a field of an instruction reaches, and how far behind a branch its place may be, or how far ahead of it.
NEAR = 16
BEHIND = 7
AHEAD = 8

# What comes ahead of the pieces, if there are words that they reach: the register BASE is set.
BEGIN = 2

OPPOSITES = {"beq": "bne", "bne": "beq"}


def best_base(pieces):
    """The offset from which on most words that are reached are near, or None if none are reached."""
    counts = {}
    for piece in pieces:
        if piece[0] in REACHING_WORDS:
            counts[piece[-1]] = counts.get(piece[-1], 0) + 1
    best = None
    most = 0
    for base in sorted(counts):
        many = sum([counts.get(base + k, 0) for k in range(NEAR)])
        if many > most:
            best = base
            most = many
    return best


class Plan:
    """Where pieces stand: the place of each, of each label, and of what is behind the last one."""

    def __init__(self, pieces):
        self.pieces = pieces
        self.base = best_base(pieces)
        self.long = [piece[0] in REACHING_WORDS and not 0 <= piece[-1] - self.base < NEAR for piece in pieces]
        self.places = []
        self.labels = {}
        self.behind = 0
        self.place()
        while self.lengthen():
            self.place()

    def place(self):
        """Gives all pieces their places."""
        at = 0 if self.base is None else BEGIN
        self.places = []
        for index, piece in enumerate(self.pieces):
            self.places.append(at)
            if piece[0] == "label":
                self.labels[piece[1]] = at
            short, long = LENGTHS[piece[0]]
            at += long if self.long[index] else short
        self.behind = at

    def lengthen(self):
        """Makes the pieces long that do not reach their places; returns True if there are such."""
        found = False
        for index, piece in enumerate(self.pieces):
            if piece[0] in REACHING_PLACES and not self.long[index]:
                distance = self.labels[piece[-1]] - self.places[index] - 1
                if not -AHEAD <= distance <= BEHIND:
                    self.long[index] = True
                    found = True
        return found


def constant(a, word):
    """A register becomes a word."""
    return [encode("set", a, 0, 0), wrap(word)]


def long_jump(target):
    """The words of a jump to a place that is not near."""
    return constant(ASIDE, target) + [encode("jump", ASIDE, 0, 0)]


def near_field(plan, index):
    """The field c of a branch that reaches the place of a piece."""
    return plan.labels[plan.pieces[index][-1]] - plan.places[index] - 1 + AHEAD


def jump_words(plan, index):
    """The words of a jump."""
    if plan.long[index]:
        return long_jump(plan.labels[plan.pieces[index][-1]])
    return [encode("beq", 0, 0, near_field(plan, index))]


def branch_words(plan, index):
    """The words of a branch."""
    _, op, a, b, label = plan.pieces[index]
    if plan.long[index]:
        # The opposite branch goes over the jump.
        jump = long_jump(plan.labels[label])
        return [encode(OPPOSITES[op], a, b, AHEAD + len(jump))] + jump
    return [encode(op, a, b, near_field(plan, index))]


def near_words(plan, piece):
    """The words of a piece that reaches a near word."""
    far = piece[-1] - plan.base
    if piece[0] in ("load", "store"):
        return [encode(piece[0], piece[1], BASE, far)]
    first = encode("add", piece[1], piece[1], BASE)
    if piece[0] == "fetch":
        return [first, encode("load", piece[1], piece[1], far)]
    return [first, encode("store", piece[2], piece[1], far)]


def far_words(plan, piece):
    """The words of a piece that reaches a word which is not near."""
    begin = constant(ASIDE, plan.behind + piece[-1])
    if piece[0] in ("load", "store"):
        return begin + [encode(piece[0], piece[1], ASIDE, 0)]
    begin.append(encode("add", piece[1], piece[1], ASIDE))
    if piece[0] == "fetch":
        return begin + [encode("load", piece[1], piece[1], 0)]
    return begin + [encode("store", piece[2], piece[1], 0)]


def piece_words(plan, index):
    """The words of a piece."""
    piece = plan.pieces[index]
    kind = piece[0]
    if kind == "label":
        return []
    if kind == "code":
        _, op, a, b, c = piece
        return [encode(op, a, b, c)]
    if kind == "constant":
        return constant(piece[1], piece[2])
    if kind == "jump":
        return jump_words(plan, index)
    if kind == "branch":
        return branch_words(plan, index)
    if plan.long[index]:
        return far_words(plan, piece)
    return near_words(plan, piece)


def code_of(plan):
    """The words of all pieces."""
    words = []
    if plan.base is not None:
        words.extend(constant(BASE, plan.behind + plan.base))
    for index in range(len(plan.pieces)):
        words.extend(piece_words(plan, index))
    return words

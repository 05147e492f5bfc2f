"""Formulas, how they are written, and how a text is read as one.

A formula is the flat list of its nodes, each one ahead of the nodes of the two
formulas that it is of. A tensor is "*", a par is "|", a plain atom is its name,
a turned atom is ~ and its name. It is flat so that no step goes as deep as the
formula is nested.
"""

from goodsplans.texts import is_name, is_name_sign

TENSOR = "*"
PAR = "|"
TURN = "~"
ARROW = "-o"
BLANK = " "
LONGEST_TEXT = 2000
MOST_PENDING = 100


def dual_node(node):
    if node == TENSOR:
        return PAR
    if node == PAR:
        return TENSOR
    if node.startswith(TURN):
        return node[1:]
    return TURN + node


# The order of the nodes stays, as a dual has the duals of the two in the same order.
def dual(formula):
    return [dual_node(node) for node in formula]


# Where the formula that begins at a place ends.
def end_of_formula(nodes, at):
    lacking = 1
    while lacking > 0:
        lacking += 1 if nodes[at] in (TENSOR, PAR) else -1
        at += 1
    return at


# Of a, b and c: a tensor (b tensor c).
def tensor_of(names):
    nodes = []
    for name in names[:-1]:
        nodes.extend([TENSOR, name])
    return nodes + names[-1:]


def put_in_brackets(text, needed):
    return "(" + text + ")" if needed else text


# Goes from the last node to the first, so that the two formulas that a node is of are
# written when it comes. What is written waits, with its first node, for its own node.
def formula_form(formula):
    written = []
    for node in reversed(formula):
        form = node
        if node in (TENSOR, PAR):
            first = written.pop()
            second = written.pop()
            form = put_in_brackets(first[1], first[0] in (TENSOR, PAR)) + node
            form += put_in_brackets(second[1], second[0] == dual_node(node))
        written.append((node, form))
    return written[0][1]


# A stretch is taken whole before it is looked at: a part of one is no token.
def stretch_at(text, at):
    end = at
    while end < len(text) and is_name_sign(text[end]):
        end += 1
    return text[at:end]


# The token, or the blank, that begins at a place; None if there is none.
def token_at(text, at):
    if text[at] in " ~*|()":
        return text[at]
    if text[at:at + 2] == ARROW:
        return ARROW
    stretch = stretch_at(text, at)
    return stretch if is_name(stretch) else None


def tokens_of(text):
    tokens = []
    at = 0
    while at < len(text):
        token = token_at(text, at)
        if token is None:
            return None
        if token != BLANK:
            tokens.append(token)
        at += len(token)
    return tokens


# Takes tokens one by one. Pending are the signs whose formula has not ended yet, each
# with the formula ahead of it; the document bounds how many these may be. The part is
# the one that has just ended, or None where one has to begin. A method that answers
# True or False tells if the tokens can still become a formula.
class Reader:
    def __init__(self):
        self.pending = []
        self.part = None

    def last_sign(self):
        return self.pending[-1][0] if self.pending else None

    def put(self, sign, ahead):
        self.pending.append((sign, ahead))
        self.part = None
        return len(self.pending) <= MOST_PENDING

    def take(self, token):
        if self.part is None:
            return self.start_part(token)
        return self.go_on(token)

    def start_part(self, token):
        if token in (TURN, "("):
            return self.put(token, [])
        if not is_name(token):
            return False
        self.end_part([token])
        return True

    def go_on(self, token):
        if token in (TENSOR, PAR):
            # One chain has one sign: behind the other one this is no formula.
            if self.last_sign() == dual_node(token):
                return False
            return self.put(token, self.part)
        if token == ARROW:
            self.end_chain()
            return self.put(token, self.part)
        if token == ")":
            return self.end_bracket()
        return False

    def end_part(self, formula):
        while self.last_sign() == TURN:
            self.pending.pop()
            formula = dual(formula)
        self.part = formula

    def end_chain(self):
        while self.last_sign() in (TENSOR, PAR):
            sign = self.last_sign()
            ahead = self.pending.pop()[1]
            self.part = [sign] + ahead + self.part

    def end_formula(self):
        self.end_chain()
        while self.last_sign() == ARROW:
            ahead = self.pending.pop()[1]
            self.part = [PAR] + dual(ahead) + self.part

    def end_bracket(self):
        self.end_formula()
        if self.last_sign() != "(":
            return False
        self.pending.pop()
        self.end_part(self.part)
        return True

    def whole(self):
        if self.part is None:
            return None
        self.end_formula()
        return None if self.pending else self.part


# None stands for a text that is read as no formula.
def read_formula(text):
    if len(text) > LONGEST_TEXT:
        return None
    tokens = tokens_of(text)
    if tokens is None:
        return None
    reader = Reader()
    for token in tokens:
        if not reader.take(token):
            return None
    return reader.whole()

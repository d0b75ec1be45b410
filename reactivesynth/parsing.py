"""Reading a property from text."""

from reactivesynth.errors import DuplicateSignal, FormulaSyntaxError, TooLarge, UnknownSignal
from reactivesynth.formulas import count_operators, depth, subformulas, temporal_count
from reactivesynth.reading import is_reserved, word_at
from reactivesynth.signs import CONSTANTS, INFIX_SIGNS, PREFIX_SIGNS, QUANTIFIERS

# No sign in this list begins with one that stands before it.
SIGNS = ("<->", "->", "!", "&", "|", "(", ")", ",", ":",
         "X", "F", "G", "U", "W", "R", "Y", "Z", "O", "H", "S", "T")

# The signs of the operators with two operands; those that bind less tightly come first.
LEVELS = (("<->",), ("->",), ("|",), ("&",), ("U", "W", "R", "S", "T"))
ASSOCIATE_TO_THE_LEFT = ("|", "&")

MOST_CHARACTERS = 200
MOST_PARENTHESES = 20
MOST_HIDDEN = 3
MOST_DEPTH = 100
MOST_TEMPORAL = 8
MOST_DOUBLING = 6


def parse_property(text, names):
    """Return the property that a text writes, over the signals in names."""
    if len(text) > MOST_CHARACTERS or text.count("(") > MOST_PARENTHESES:
        raise TooLarge("the text is too long or has too many parentheses")
    quantifier, hidden, formula = Reader(text).read_all()
    check_names(hidden, formula, names)
    check_bounds(hidden, formula)
    if quantifier == "":
        return formula
    return quantifier, tuple(hidden), formula


def check_names(hidden, formula, names):
    """Raise the error for the leftmost name that may not stand where it stands."""
    known = list(names)
    for name in hidden:
        if name in known:
            raise DuplicateSignal(name)
        known.append(name)
    for part in subformulas(formula):
        if part[0] == "signal" and part[1] not in known:
            raise UnknownSignal(part[1])


def check_bounds(hidden, formula):
    """Raise TooLarge if there are too many hidden names or the formula is too large."""
    if len(hidden) > MOST_HIDDEN:
        raise TooLarge("there are too many hidden signals")
    if depth(formula) > MOST_DEPTH:
        raise TooLarge("the formula is too deep")
    if temporal_count(formula) > MOST_TEMPORAL:
        raise TooLarge("the formula has too many temporal operators")
    if count_operators(formula, ("iff", "weak_until")) > MOST_DOUBLING:
        raise TooLarge("the formula has too many operators iff and weak_until")


def split_tokens(text):
    """Return the tokens of a text, each as its kind, its characters and its position.

    The last one is of the kind "end", or "bad" where a character begins no token.
    """
    tokens = []
    at = 0
    while at < len(text):
        if text[at] == " ":
            at += 1
            continue
        kind, characters = token_at(text, at)
        tokens.append((kind, characters, at))
        if kind == "bad":
            return tokens
        at += len(characters)
    tokens.append(("end", "", len(text)))
    return tokens


def token_at(text, at):
    """Return the kind and the characters of the token that begins at an index.

    The kind of a name is "name"; each other token is a kind of its own.
    """
    for sign in SIGNS:
        if text[at:at + len(sign)] == sign:
            return sign, sign
    word = word_at(text, at)
    if word == "":
        return "bad", ""
    return (word if is_reserved(word) else "name"), word


def fold(operators, parts):
    """Join parts by the operators between them; an operator with a letter or an arrow takes the right side first."""
    if len(operators) == 0:
        return parts[0]
    if operators[0] in ASSOCIATE_TO_THE_LEFT:
        return fold_left(operators, parts)
    return fold_right(operators, parts)


def fold_left(operators, parts):
    """Join parts from the left."""
    kinds = {sign: kind for kind, sign in INFIX_SIGNS.items()}
    joined = parts[0]
    for sign, part in zip(operators, parts[1:]):
        joined = (kinds[sign], joined, part)
    return joined


def fold_right(operators, parts):
    """Join parts from the right."""
    kinds = {sign: kind for kind, sign in INFIX_SIGNS.items()}
    joined = parts[-1]
    for sign, part in zip(operators[::-1], parts[-2::-1]):
        joined = (kinds[sign], part, joined)
    return joined


class Reader:
    """Reads a property token by token; it never goes past a token with which no property can go on."""

    def __init__(self, text):
        self.tokens = split_tokens(text)
        self.at = 0
        self.prefixes = {sign: kind for kind, sign in PREFIX_SIGNS.items()}

    def peek(self):
        """Return the kind of the next token."""
        return self.tokens[self.at][0]

    def take(self, kind):
        """Go past the next token, which must be of this kind, and return its characters."""
        found, characters, position = self.tokens[self.at]
        if found != kind:
            raise FormulaSyntaxError(position)
        self.at += 1
        return characters

    def read_all(self):
        """Return the quantifier (or the empty string), the hidden names and the formula."""
        quantifier = ""
        hidden = []
        if self.peek() in QUANTIFIERS:
            quantifier = self.take(self.peek())
            hidden = self.read_hidden()
        formula = self.read_formula(0)
        self.take("end")
        return quantifier, hidden, formula

    def read_hidden(self):
        """Return the hidden names, up to the colon."""
        hidden = [self.take("name")]
        while self.peek() == ",":
            self.take(",")
            hidden.append(self.take("name"))
        self.take(":")
        return hidden

    def read_formula(self, level):
        """Return a formula of this level of the grammar; 0 takes every operator."""
        if level == len(LEVELS):
            return self.read_unary()
        parts = [self.read_formula(level + 1)]
        operators = []
        while self.peek() in LEVELS[level]:
            operators.append(self.take(self.peek()))
            parts.append(self.read_formula(level + 1))
        return fold(operators, parts)

    def read_unary(self):
        """Return a constant, a signal or a formula in parentheses with the signs before it."""
        # A loop, not a recursion: up to 199 such signs may follow one another.
        signs = []
        while self.peek() in self.prefixes:
            signs.append(self.take(self.peek()))
        formula = self.read_atom()
        for sign in signs[::-1]:
            formula = (self.prefixes[sign], formula)
        return formula

    def read_atom(self):
        """Return a constant, a signal or a formula in parentheses."""
        if self.peek() == "(":
            self.take("(")
            formula = self.read_formula(0)
            self.take(")")
            return formula
        if self.peek() in CONSTANTS:
            return (self.take(self.peek()),)
        return ("signal", self.take("name"))

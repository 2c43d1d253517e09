"""Texts read as formulas and as sequents."""

from cutnets.formulas import PAR, dual, of_two, plain_atom
from cutnets.refusals import NoText
from cutnets.texts import BLANK, is_digit, is_small_letter, parted, without_outer_blanks

MOST_BYTES = 2000
MOST_NAME_BYTES = 12
MOST_PENDING = 100
MOST_FORMULAS = 20

COMMA = 44

# A token is the tuple of its bytes.
TILDE = (126,)
STAR = (42,)
BAR = (124,)
LEFT = (40,)
RIGHT = (41,)
ARROW = (45, 111)

SIGN_BYTES = (126, 42, 124, 40, 41)


def is_name_byte(byte):
    return is_small_letter(byte) or is_digit(byte)


def name_end(text, place):
    end = place
    while end < len(text) and is_name_byte(text[end]):
        end += 1
    if end - place > MOST_NAME_BYTES or not is_small_letter(text[place]):
        raise NoText()
    return end


def token_end(text, place):
    if is_name_byte(text[place]):
        return name_end(text, place)
    if text[place] == BLANK or text[place] in SIGN_BYTES:
        return place + 1
    if tuple(text[place:place + 2]) == ARROW:
        return place + 2
    raise NoText()


def tokens_of(text):
    tokens = []
    place = 0
    while place < len(text):
        end = token_end(text, place)
        if text[place] != BLANK:
            tokens.append(tuple(text[place:end]))
        place = end
    return tokens


def is_chain_sign(token):
    return token == STAR or token == BAR


class FormulaReader:
    # pending holds the tokens that are not closed yet, each with the formula ahead of it (None if there is none);
    # current is the part that was read last, None where a part must come next.
    def __init__(self):
        self.pending = []
        self.current = None

    def take(self, token):
        if self.current is None:
            self.take_ahead_of_part(token)
        elif is_chain_sign(token):
            self.take_chain_sign(token)
        elif token == ARROW:
            self.close_chain()
            self.put(token)
        elif token == RIGHT:
            self.take_right()
        else:
            raise NoText()

    def take_ahead_of_part(self, token):
        if token == TILDE or token == LEFT:
            self.put(token)
        elif is_small_letter(token[0]):
            self.current = plain_atom(token)
            self.close_tildes()
        else:
            raise NoText()

    def take_chain_sign(self, token):
        if is_chain_sign(self.last()) and self.last() != token:
            raise NoText()
        self.put(token)

    def take_right(self):
        self.close_formula()
        if self.last() != LEFT:
            raise NoText()
        self.pending.pop()
        self.close_tildes()

    def last(self):
        if len(self.pending) == 0:
            return None
        return self.pending[-1][0]

    def put(self, token):
        self.pending.append((token, self.current))
        self.current = None
        if len(self.pending) > MOST_PENDING:
            raise NoText()

    def close_tildes(self):
        while self.last() == TILDE:
            self.pending.pop()
            self.current = dual(self.current)

    def close_chain(self):
        while is_chain_sign(self.last()):
            closed = self.pending.pop()
            self.current = of_two(closed[0][0], closed[1], self.current)

    def close_formula(self):
        self.close_chain()
        while self.last() == ARROW:
            closed = self.pending.pop()
            self.current = of_two(PAR, dual(closed[1]), self.current)

    def whole(self):
        if self.current is None:
            raise NoText()
        self.close_formula()
        if len(self.pending) > 0:
            raise NoText()
        return self.current


def read_formula(text):
    if len(text) > MOST_BYTES:
        raise NoText()
    reader = FormulaReader()
    for token in tokens_of(text):
        reader.take(token)
    return reader.whole()


def read_sequent(text):
    if len(without_outer_blanks(text)) == 0:
        return []
    parts = parted(text, COMMA)
    if len(parts) > MOST_FORMULAS:
        raise NoText()
    return [read_formula(part) for part in parts]

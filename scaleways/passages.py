"""Passages: translations of one scale into another that keep the order."""

from scaleways.checks import is_number, is_numeral, is_sequence, is_value
from scaleways.errors import InvalidPassage, InvalidText, Mismatch, NoValue
from scaleways.pieces import composed, greater_results, least_source, lesser_results
from scaleways.pieces import never_exceeds, normal, stays_within, stretches, value_at


def is_piece(value):
    """Whether any value is a triple of a start, a value and whether it rises."""
    if not isinstance(value, tuple) or len(value) != 3:
        return False
    return is_number(value[0]) and is_number(value[1]) and isinstance(value[2], bool)


def are_pieces(value, top):
    """Whether any value is a sequence of pieces that stand in order on the scale up to top."""
    if not is_sequence(value) or len(value) == 0:
        return False
    if not all([is_piece(piece) for piece in value]):
        return False
    starts = [piece[0] for piece in value]
    if starts[0] != 0 or starts[-1] > top:
        return False
    return all([starts[at] < starts[at + 1] for at in range(len(starts) - 1)])


def is_table(value, target):
    """Whether any value is a sequence of numbers up to target that never decreases."""
    if not is_sequence(value) or len(value) == 0:
        return False
    if not all([is_value(result, target) for result in value]):
        return False
    return all([value[x] <= value[x + 1] for x in range(len(value) - 1)])


def is_piece_word(word):
    """Whether a word has the form START=VALUE or START=VALUE+."""
    start, _, value = word.removesuffix("+").partition("=")
    return is_numeral(start) and is_numeral(value)


def piece_of_word(word):
    """Return the piece that a word of the right form describes."""
    start, _, value = word.removesuffix("+").partition("=")
    return (int(start), int(value), word.endswith("+"))


def word_of_piece(piece):
    """Return the word that describes a piece."""
    start, value, rises = piece
    mark = "+" if rises else ""
    return f"{start}={value}{mark}"


def has_form(word, at):
    """Whether a word may be the one of this number in the text of a passage."""
    return is_numeral(word) if at < 2 else is_piece_word(word)


def passage_of(top, target, rows):
    """Return the passage with these stretches."""
    return Passage(top, target, [(low, value, rises) for low, _, value, rises in rows])


def rows_of(p):
    """Return the stretches of a passage."""
    return stretches(p.pieces, p.top)


def check_alike(p, q):
    """Raise Mismatch if two passages do not lie between scales with the same tops."""
    if p.top != q.top or p.target != q.target:
        raise Mismatch()


def is_below(p, q):
    """Whether p maps no x to a greater value than q does."""
    check_alike(p, q)
    return never_exceeds(rows_of(p), rows_of(q))


class Passage:
    """A non-decreasing mapping of the values from 0 to top to values from 0 to target."""

    def __init__(self, top, target, pieces):
        if not is_number(top):
            raise InvalidPassage("top")
        if not is_number(target):
            raise InvalidPassage("target")
        if not are_pieces(pieces, top):
            raise InvalidPassage("pieces")
        rows = stretches(pieces, top)
        if not stays_within(rows, target):
            raise InvalidPassage("pieces")
        self.top = top
        self.target = target
        self.pieces = normal(rows)

    @classmethod
    def table(cls, values, target):
        """Return the passage that maps 0, 1, 2, .. to these values."""
        if not is_number(target):
            raise InvalidPassage("target")
        if not is_table(values, target):
            raise InvalidPassage("values")
        return cls(len(values) - 1, target, [(x, value, False) for x, value in enumerate(values)])

    @classmethod
    def same(cls, top):
        """Return the passage that maps each value up to top to itself."""
        return cls(top, top, [(0, 0, True)])

    @classmethod
    def read(cls, text):
        """Return the passage with this text."""
        words = text.split(" ")
        for at, word in enumerate(words):
            if not has_form(word, at):
                raise InvalidText(at)
        if len(words) < 3:
            raise InvalidText(len(words))
        return cls(int(words[0]), int(words[1]), [piece_of_word(word) for word in words[2:]])

    def sources(self, y):
        """Return the least and the greatest x that is mapped to y, or None."""
        if not is_value(y, self.target):
            raise NoValue(y)
        rows = rows_of(self)
        low = least_source(rows, y)
        high = least_source(rows, y + 1) - 1
        return (low, high) if low <= high else None

    def __call__(self, x):
        if not is_value(x, self.top):
            raise NoValue(x)
        return value_at(self.pieces, x)

    def __len__(self):
        return len(self.pieces)

    def __str__(self):
        words = [word_of_piece(piece) for piece in self.pieces]
        return " ".join([str(self.top), str(self.target), *words])

    def __rshift__(self, other):
        if not isinstance(other, Passage):
            return NotImplemented
        if self.target != other.top:
            raise Mismatch()
        return passage_of(self.top, other.target, composed(rows_of(self), rows_of(other)))

    def __or__(self, other):
        if not isinstance(other, Passage):
            return NotImplemented
        check_alike(self, other)
        return passage_of(self.top, self.target, greater_results(rows_of(self), rows_of(other)))

    def __and__(self, other):
        if not isinstance(other, Passage):
            return NotImplemented
        check_alike(self, other)
        return passage_of(self.top, self.target, lesser_results(rows_of(self), rows_of(other)))

    def __eq__(self, other):
        if not isinstance(other, Passage):
            return NotImplemented
        return self.top == other.top and self.target == other.target and self.pieces == other.pieces

    def __le__(self, other):
        if not isinstance(other, Passage):
            return NotImplemented
        return is_below(self, other)

    def __ge__(self, other):
        if not isinstance(other, Passage):
            return NotImplemented
        return is_below(other, self)

    def __lt__(self, other):
        if not isinstance(other, Passage):
            return NotImplemented
        return is_below(self, other) and self.pieces != other.pieces

    def __gt__(self, other):
        if not isinstance(other, Passage):
            return NotImplemented
        return is_below(other, self) and self.pieces != other.pieces

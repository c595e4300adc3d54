"""Fills: what stands above a value [12]; works: rows of fills that are done [13]."""

from unlikecalls.basics import is_between, is_bit, is_list, is_word_of
from unlikecalls.errors import InvalidBits, InvalidFill, InvalidNumber, InvalidWork, TooMany

FREE = "free"
ZEROS = "zeros"
SIGN = "sign"
LEAST_EXTENT = 3
LEAST_WIDTH = 2
MOST_BITS = 128
MOST_FILLS = 126


class Fill:
    """What stands above a value: FREE, or ZEROS or SIGN up to an extent."""

    def __init__(self, word="free", extent=None):
        if not is_word_of(word, (FREE, ZEROS, SIGN)):
            raise InvalidFill(word)
        if word == FREE and extent is not None:
            raise InvalidFill(extent)
        if word != FREE and not is_between(extent, LEAST_EXTENT, MOST_BITS):
            raise InvalidFill(extent)
        self._word = word
        self._extent = extent

    @staticmethod
    def read(text):
        """The fill that str writes in this way."""
        if not isinstance(text, str):
            raise InvalidFill(text)
        if text == FREE:
            return Fill()
        word, _, digits = text.partition(" ")
        # Compared as texts, since int would also take other ways to write a number.
        extents = [str(extent) for extent in range(LEAST_EXTENT, MOST_BITS + 1)]
        if word not in (ZEROS, SIGN) or digits not in extents:
            raise InvalidFill(text)
        return Fill(word, int(digits))

    @property
    def word(self):
        """The word "free", "zeros" or "sign"."""
        return self._word

    @property
    def extent(self):
        """The first bit above the fill; None if the fill is FREE."""
        return self._extent

    @property
    def is_free(self):
        """Whether nothing is promised."""
        return self._extent is None

    def cut(self, width, bits):
        """The fill above a value with this width, in a place with so many bits."""
        if not is_between(width, LEAST_WIDTH, MOST_BITS):
            raise InvalidNumber(width)
        if not is_between(bits, width, MOST_BITS):
            raise InvalidNumber(bits)
        if self._extent is None:
            return self
        extent = self._extent if self._extent < bits else bits
        if extent <= width:
            return Fill()
        return Fill(self._word, extent)

    def covers(self, other):
        """Whether all that the other fill promises is promised here, too."""
        if not isinstance(other, Fill):
            raise InvalidFill(other)
        if other.is_free:
            return True
        return self._word == other.word and self._extent >= other.extent

    def __eq__(self, other):
        return isinstance(other, Fill) and self._word == other._word and self._extent == other._extent

    def __str__(self):
        if self._extent is None:
            return "free"
        return f"{self._word} {self._extent}"

    def __repr__(self):
        if self._extent is None:
            return f"Fill({self._word!r})"
        return f"Fill({self._word!r}, {self._extent})"


class Work:
    """Fills, none of them FREE, that are done one after another on the bits of a row."""

    def __init__(self, *fills):
        for position, fill in enumerate(fills):
            if not isinstance(fill, Fill) or fill.is_free:
                raise InvalidWork(position)
        if len(fills) > MOST_FILLS:
            raise TooMany("fills", MOST_FILLS)
        self._fills = fills

    def fills(self):
        """The fills, in their sequence."""
        return list(self._fills)

    def plain(self):
        """The shortest work that is like this one."""
        fills = plain_fills(self._fills)
        if len(fills) == len(self._fills):
            return self
        return Work(*fills)

    def is_like(self, other):
        """Whether both do the same on every row, for every width."""
        if not isinstance(other, Work):
            raise InvalidWork(None)
        return self.plain() == other.plain()

    def __call__(self, row, width):
        if not is_list(row):
            raise InvalidBits(None)
        for position, bit in enumerate(row):
            if not is_bit(bit):
                raise InvalidBits(position)
        if not is_between(width, LEAST_WIDTH, MOST_BITS):
            raise InvalidNumber(width)
        return filled(self._fills, row, width)

    def __add__(self, other):
        if isinstance(other, Work):
            more = other._fills
        elif isinstance(other, Fill):
            more = () if other.is_free else (other,)
        else:
            raise InvalidWork(None)
        fills = self._fills + more
        return Work(*fills)

    def __len__(self):
        return len(self._fills)

    def __eq__(self, other):
        return isinstance(other, Work) and self._fills == other._fills

    def __repr__(self):
        return f"Work({', '.join([repr(fill) for fill in self._fills])})"


def plain_fills(fills):
    """The fills of the shortest work that is like the one with these fills, of which there may be any number."""
    kept = []
    for fill in fills[::-1]:
        if kept and fill.extent <= kept[-1].extent:
            # A later fill sets all bits that this one sets.
            continue
        if kept and fill.word == kept[-1].word:
            # Below the later fill's extent this one sets the same; above it, it alone does.
            kept[-1] = fill
        else:
            kept.append(fill)
    return kept[::-1]


def filled(fills, row, width):
    """The row behind these fills, done one after another; what stands in the row may be more than bits."""
    made = list(row)
    done = width
    # From the last fill back, so that each element is set once.
    for fill in fills[::-1]:
        end = fill.extent if fill.extent < len(made) else len(made)
        if end > done:
            made[done:end] = [made[width - 1] if fill.word == SIGN else 0] * (end - done)
            done = end
    return made

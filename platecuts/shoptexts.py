"""The text of a shop, written and read."""

from platecuts.errors import NoKind, NoKinds, NoText
from platecuts.shops import Shop

WORDS_OF_A_KIND = 5
TURNS = "turns"
STAYS = "stays"


def kind_line(kind):
    """The line of a kind, without its line feed."""
    wide, high, worth, wanted, turns = kind
    last = TURNS if turns else STAYS
    return f"{wide} {high} {worth} {wanted} {last}"


def shop_text(shop):
    """The text of a shop: a line with the blade, then one for each kind."""
    lines = [str(shop.blade())] + [kind_line(kind) for kind in shop.kinds()]
    return "".join([line + "\n" for line in lines])


def read_number(word):
    """The number that a word writes in figures, without noughts ahead."""
    # int alone would let signs, blanks, low lines and noughts ahead pass.
    if not word.isascii() or not word.isdigit():
        raise NoText("a number is written in the figures 0 to 9")
    if word.startswith("0") and word != "0":
        raise NoText("a number is written without noughts ahead")
    return int(word)


def read_turns(word):
    """Whether a kind may be turned, by the last word of its line."""
    if word != TURNS and word != STAYS:
        raise NoText("the last word of a kind is turns or stays")
    return word == TURNS


def read_kind(line):
    """What a kind's line says, as a tuple; whether it is a kind the shop will judge."""
    words = line.split(" ")
    if len(words) != WORDS_OF_A_KIND:
        raise NoText("a kind's line has five words, one blank between each two")
    wide, high, worth, wanted = [read_number(word) for word in words[:4]]
    return (wide, high, worth, wanted, read_turns(words[4]))


def read_shop(text):
    """The shop whose text this is; anything else is refused."""
    if not isinstance(text, str) or not text.endswith("\n"):
        raise NoText("a shop's text is lines, each ended by a line feed")
    # splitlines would end lines at other signs too.
    lines = text.split("\n")[:-1]
    blade = read_number(lines[0])
    kinds = [read_kind(line) for line in lines[1:]]
    try:
        return Shop(blade, kinds)
    except (NoKinds, NoKind):
        raise NoText("a shop has 1 to 8 kinds, with sides from 1 on") from None

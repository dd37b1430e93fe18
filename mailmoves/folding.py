"""Wide characters, the letters that they stand for, and the words of a text of them."""

from mailmoves.alphabet import letter_of

LAST_WIDE = 0x10FFFF
FIRST_NOT_WIDE = 0xD800
LAST_NOT_WIDE = 0xDFFF
LINE_END = 10

# From the first to the last each stands for what its fellow does; the third is the first one's fellow.
ALIKE = (
    (0x41, 0x5A, 0x61),
    (0xE0, 0xF6, 0xC0), (0xF8, 0xFE, 0xD8),
    (0x2070, 0x2070, 0x30), (0x2074, 0x2079, 0x34), (0x2080, 0x2089, 0x30),
    (0xFF10, 0xFF19, 0x30), (0xFF21, 0xFF3A, 0x61), (0xFF41, 0xFF5A, 0x61),
)

# From the first to the last all stand for the same.
SAME = (
    (0xAA, 0xAA, "a"), (0xBA, 0xBA, "o"), (0xB9, 0xB9, "1"), (0xB2, 0xB2, "2"), (0xB3, 0xB3, "3"),
    (0xC0, 0xC5, "a"), (0xC6, 0xC6, "ae"), (0xC7, 0xC7, "c"), (0xC8, 0xCB, "e"), (0xCC, 0xCF, "i"),
    (0xD0, 0xD0, "d"), (0xD1, 0xD1, "n"), (0xD2, 0xD6, "o"), (0xD8, 0xD8, "o"), (0xD9, 0xDC, "u"),
    (0xDD, 0xDD, "y"), (0xDE, 0xDE, "th"), (0xDF, 0xDF, "ss"), (0xFF, 0xFF, "y"),
    (0x100, 0x105, "a"), (0x106, 0x10D, "c"), (0x10E, 0x111, "d"), (0x112, 0x11B, "e"), (0x11C, 0x123, "g"),
    (0x124, 0x127, "h"), (0x128, 0x131, "i"), (0x132, 0x133, "ij"), (0x134, 0x135, "j"), (0x136, 0x138, "k"),
    (0x139, 0x142, "l"), (0x143, 0x149, "n"), (0x14A, 0x14B, "ng"), (0x14C, 0x151, "o"), (0x152, 0x153, "oe"),
    (0x154, 0x159, "r"), (0x15A, 0x161, "s"), (0x162, 0x167, "t"), (0x168, 0x173, "u"), (0x174, 0x175, "w"),
    (0x176, 0x178, "y"), (0x179, 0x17E, "z"), (0x17F, 0x17F, "s"), (0x218, 0x219, "s"), (0x21A, 0x21B, "t"),
    (0x1E9E, 0x1E9E, "ss"), (0x2116, 0x2116, "no"),
    (0xFB00, 0xFB00, "ff"), (0xFB01, 0xFB01, "fi"), (0xFB02, 0xFB02, "fl"), (0xFB03, 0xFB03, "ffi"),
    (0xFB04, 0xFB04, "ffl"), (0xFB05, 0xFB06, "st"),
)

VANISHING = (
    (0x27, 0x27), (0x60, 0x60), (0xAD, 0xAD), (0xB4, 0xB4), (0x2BC, 0x2BC), (0x300, 0x36F), (0x200B, 0x200D),
    (0x2018, 0x2019), (0x2060, 0x2060), (0xFEFF, 0xFEFF),
)


def is_wide(number):
    return 1 <= number <= LAST_WIDE and not FIRST_NOT_WIDE <= number <= LAST_NOT_WIDE


def fellow_of(character):
    for first, last, fellow in ALIKE:
        if first <= character <= last:
            return fellow + character - first
    return character


def letters_of(character):
    """The letters that a wide character stands for; an empty text if it stands for none."""
    fellow = fellow_of(character)
    for first, last, letters in SAME:
        if first <= fellow <= last:
            return letters
    return letter_of(fellow)


def vanishes(character):
    return any([first <= character <= last for first, last in VANISHING])


def lines_of_words(characters):
    """The words of a text, line by line; a line without words is none."""
    lines = []
    words = []
    word = ""
    # One more line end behind the last character closes the last word and the last line.
    for character in characters + [LINE_END]:
        letters = letters_of(character)
        word += letters
        if letters or vanishes(character):
            continue
        if word:
            words.append(word)
            word = ""
        if character == LINE_END and words:
            lines.append(words)
            words = []
    return lines

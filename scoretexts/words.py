"""The words of a text and their places."""

from scoretexts.faults import BAD_BYTE, Fault

LINE_END = 10
BLANK = 32
LAST_BYTE = 126

SIGNS = "abcdefghijklmnopqrstuvwxyz0123456789/.~#[]{}:|-"

# No right word has this sign, so it can stand for every byte that no right word has.
OTHER = "?"


def check_bytes(text):
    for place, byte in enumerate(text):
        if byte != LINE_END and not BLANK <= byte <= LAST_BYTE:
            raise Fault(BAD_BYTE, place)


# Pairs of a word and its place; the last one is the empty word, which stands for the text's end.
def words_of(text):
    signs = sign_table()
    words = []
    word = ""
    # The blank that is added ends the last word like any other.
    for place, byte in enumerate(text + [BLANK]):
        if byte != BLANK and byte != LINE_END:
            word += signs.get(byte, OTHER)
        elif word != "":
            words.append((word, place - len(word)))
            word = ""
    words.append(("", len(text)))
    return words


def sign_table():
    table = {}
    for sign in SIGNS:
        table[ord(sign)] = sign
    return table

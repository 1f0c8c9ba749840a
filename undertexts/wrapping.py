"""The words of lines, and lines made of words to a width."""

from undertexts.form import BLANK


def words_of(line):
    words = []
    word = []
    # A blank behind the line ends its last word like any other.
    for byte in line + [BLANK]:
        if byte != BLANK:
            word.append(byte)
        elif len(word) > 0:
            words.append(word)
            word = []
    return words


def cut(word, w):
    return [word[place:place + w] for place in range(0, len(word), w)]


def pieces_of(lines, w):
    pieces = []
    for line in lines:
        for word in words_of(line):
            pieces.extend(cut(word, w))
    return pieces


def wrapped(lines, w):
    filled = []
    for piece in pieces_of(lines, w):
        if len(filled) > 0 and len(filled[-1]) + 1 + len(piece) <= w:
            filled[-1] = filled[-1] + [BLANK] + piece
        else:
            filled.append(piece)
    return filled

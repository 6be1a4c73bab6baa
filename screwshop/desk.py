"""A desk: requests to a Board, line by line, and its replies."""

from screwshop.board import Board
from screwshop.errors import BadLine, NoClosing, NothingDone, Unfit
from screwshop.texts import fraction_read, fraction_told, lines_of

# what stands behind the word of a request: an F is a FRACTION, a D a number from 1
DEED_WORDS = {"spin": "F", "carry": "F", "cut": "FD", "ring": "D", "plane": "FD"}
BARE_WORDS = ("undo", "redo", "stand", "dial", "depth", "grooves")
MOST_FIGURES = 13


def is_request(line):
    """Whether line is a request."""
    word, *others = line.split(" ")
    if word in BARE_WORDS:
        return others == []
    if word not in DEED_WORDS or len(others) != len(DEED_WORDS[word]):
        return False
    return all([_is_value(own, kind) for own, kind in zip(others, DEED_WORDS[word])])


def _is_value(word, kind):
    """Whether word is an F or a D, as kind says."""
    # told ahead of all else: Python reads no number of too many figures
    if max([len(part) for part in word.removeprefix("-").split("/")]) > MOST_FIGURES:
        return False
    value = fraction_read(word)
    if value is None:
        return False
    return kind == "F" or (value[1] == 1 and value[0] >= 1)


def replies(lathe, length, text):
    """The list of the replies of a new Board to the requests of text, one a line."""
    lines = lines_of(text)
    for number, line in enumerate(lines):
        if not is_request(line):
            raise BadLine(number)
    board = Board(lathe, length)
    return [_reply(board, line.split(" ")) for line in lines]


def _reply(board, words):
    try:
        return _answer(board, words)
    except Unfit:
        return "no Unfit"
    except NoClosing:
        return "no NoClosing"
    except NothingDone:
        return "no NothingDone"


def _answer(board, words):
    """The reply to a request that raises nothing."""
    word = words[0]
    if word == "stand":
        turned, place = board.stand_now()
        return f"{fraction_told(turned)} {fraction_told(place)}"
    if word == "dial":
        shown, mark = board.dial_now()
        met = "-" if mark is None else str(mark)
        return f"{fraction_told(shown)} {met}"
    if word == "depth":
        return str(board.depth_here())
    if word == "grooves":
        return str(len(board.bar_now()[1]))
    if word == "undo":
        board.undo()
    elif word == "redo":
        board.redo()
    else:
        board.do(_deed_of(words))
    return "done"


def _deed_of(words):
    """The DEED of a request."""
    deed = [words[0]]
    for word, kind in zip(words[1:], DEED_WORDS[words[0]]):
        value = fraction_read(word)
        deed.append(value if kind == "F" else value[0])
    return tuple(deed)

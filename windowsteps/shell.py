"""Shells: lines of words that work on a board."""

from windowsteps.blocks import blocks
from windowsteps.board import Board
from windowsteps.errors import InvalidLine, InvalidNumbers
from windowsteps.texts import format_system, parse_integer, parse_thing
from windowsteps.windows import window

DONE = "ok"
NOTHING = "-"
# How many words, and how many integers behind them, follow the first word; None for any number.
COMMANDS = {
    "create": (2, 0),
    "rule": (3, 1),
    "free": (3, 1),
    "move": (2, 1),
    "drop": (1, 0),
    "mark": (1, 0),
    "back": (1, 0),
    "lead": (1, None),
    "settle": (1, 2),
}
QUERIES = {
    "show": (1, 0),
    "system": (1, 0),
    "window": (2, 0),
    "blocks": (1, 0),
    "spent": (1, 0),
    "names": (0, 0),
}


class Shell:
    """A board of its own, and the lines that work on it."""

    def __init__(self):
        self._board = Board()

    def run(self, line):
        """Execute a line and return its answer."""
        words = _words_of(line)
        if words[0] in COMMANDS:
            return self._executed(_parts(words, COMMANDS[words[0]]))
        if words[0] in QUERIES:
            return self._answered(_parts(words, QUERIES[words[0]]))
        raise InvalidLine("a line must begin with a word of the shell")

    def _executed(self, parts):
        board = self._board
        match parts:
            case ["create", name, text]:
                board.create(name, text.replace("/", "\n").replace(".", " "))
            case ["rule", name, low, high, gap]:
                board.require(name, (parse_thing(low), parse_thing(high), gap))
            case ["free", name, low, high, gap]:
                board.free(name, (parse_thing(low), parse_thing(high), gap))
            case ["move", name, block, change]:
                board.move(name, block, change)
            case ["drop", name]:
                board.drop(name)
            case ["mark", label]:
                board.mark(label)
            case ["back", label]:
                board.back(label)
            case ["lead", name, *numbers]:
                return str(board.lead(name, self._numbers_for(name, numbers)))
            case ["settle", name, raising, lowering]:
                return str(board.settle(name, raising=raising, lowering=lowering))
        return DONE

    def _answered(self, parts):
        board = self._board
        match parts:
            case ["show", name]:
                return _joined(list(board.numbers_of(name).values()))
            case ["system", name]:
                return format_system(board.system_of(name)).replace("\n", "/").replace(" ", ".")
            case ["window", name, setting]:
                return _joined(window(board.system_of(name), setting))
            case ["blocks", name]:
                return _joined([block[0] for block in blocks(board.system_of(name))])
            case ["spent", name]:
                return str(board.spent_on(name))
            case ["names"]:
                return _joined(board.names)

    def _numbers_for(self, name, numbers):
        names = self._board.system_of(name).names
        if len(numbers) != len(names):
            raise InvalidNumbers("there must be one number for each setting")
        return dict(zip(names, numbers))


def _words_of(line):
    if not isinstance(line, str) or "\n" in line:
        raise InvalidLine("a line must be a string of one line")
    words = line.split(" ")
    if "" in words:
        raise InvalidLine("words must be separated by single spaces")
    return words


def _parts(words, form):
    """The words of a line, with integers in place of those at its end that must be integers."""
    many_words, many_integers = form
    plain = words[:1 + many_words]
    integers = [parse_integer(word) for word in words[1 + many_words:]]
    if len(plain) != 1 + many_words or None in integers:
        raise InvalidLine("a word of the line is missing or no integer")
    if many_integers is not None and many_integers != len(integers):
        raise InvalidLine("the line must have as many words as its first word asks for")
    return [*plain, *integers]


def _joined(things):
    return " ".join([NOTHING if thing is None else str(thing) for thing in things]) or NOTHING

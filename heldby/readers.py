"""Readers of texts: each takes the lines one by one, and tells whether a text of its form may begin so."""

from heldby.forms import are_integers, are_names, integers_of, is_integer_word, point_of
from heldby.statements import Add, Call, Either, Function, Give, Show

# What may still come in a block: a function's parts have this order, and so have the two lists of an Either.
FIRST = 0
BEHIND_THINGS = 1
BEHIND_NUMBERS = 2
BEHIND_FUNCTIONS = 3


class FunctionBlock:
    """A function that is being read; level is that of its parts."""

    def __init__(self, level, words):
        self.level = level
        self.words = words
        self.things = []
        self.numbers = []
        self.inner = []
        self.rows = []
        self.phase = FIRST

    def made(self):
        """The Function."""
        return Function(
            self.words[0], self.words[1:], things=self.things, numbers=self.numbers, functions=self.inner,
            body=self.rows,
        )


class EitherBlock:
    """An Either that is being read; level is that of its statements, rows has those of its present list."""

    def __init__(self, level):
        self.level = level
        self.early = None
        self.rows = []


class ProgramReader:
    """Reads a program."""

    def __init__(self):
        self._blocks = []
        self._is_begun = False

    def takes(self, level, words):
        """Takes the next line; whether a text may go on so."""
        if not self._is_begun:
            self._is_begun = True
            return self._begin_function(level, words) if level == 0 else False
        # Blocks of functions end without a word, those of Eithers do not.
        while isinstance(self._blocks[-1], FunctionBlock) and self._blocks[-1].level > level:
            if len(self._blocks) == 1:
                return False
            self._end_function()
        block = self._blocks[-1]
        if isinstance(block, EitherBlock):
            if level == block.level - 1:
                return self._go_on_either(block, words)
            return level == block.level and self._take_statement(block, words)
        if level != block.level:
            return False
        return self._take_part(block, words) or self._take_statement(block, words)

    def is_whole(self):
        """Whether the text may end here."""
        return not isinstance(self._blocks[-1], EitherBlock)

    def main_function(self):
        """The main Function that was read."""
        while len(self._blocks) > 1:
            self._end_function()
        return self._blocks[0].made()

    def _begin_function(self, level, words):
        if words[0] != "function" or not are_names(words, 2):
            return False
        self._blocks.append(FunctionBlock(level + 1, words[1:]))
        return True

    def _end_function(self):
        block = self._blocks.pop()
        self._blocks[-1].inner.append(block.made())

    def _take_part(self, block, words):
        """Takes a line of a function that is no statement."""
        if not are_names(words, 2):
            return False
        if words[0] == "things" and block.phase == FIRST:
            block.things = words[1:]
            block.phase = BEHIND_THINGS
            return True
        if words[0] == "numbers" and block.phase <= BEHIND_THINGS:
            block.numbers = words[1:]
            block.phase = BEHIND_NUMBERS
            return True
        if block.phase <= BEHIND_NUMBERS and self._begin_function(block.level, words):
            block.phase = BEHIND_NUMBERS
            return True
        return False

    def _take_statement(self, block, words):
        if words == ["either"]:
            self._blocks.append(EitherBlock(block.level + 1))
        else:
            statement = _statement_of(words)
            if statement is None:
                return False
            block.rows.append(statement)
        if isinstance(block, FunctionBlock):
            block.phase = BEHIND_FUNCTIONS
        return True

    def _go_on_either(self, block, words):
        """Takes the line between the lists of an Either, or behind both."""
        if words == ["or"] and block.early is None:
            block.early = block.rows
            block.rows = []
            return True
        if words == ["end"] and block.early is not None:
            self._blocks.pop()
            self._blocks[-1].rows.append(Either(block.early, block.rows))
            return True
        return False


def _statement_of(words):
    """The single statement that is written in a line, None if it is none."""
    word, rest = words[0], words[1:]
    if word == "show" and are_names(rest, 1) and len(rest) == 1:
        return Show(rest[0])
    if word == "give" and are_names(rest, 1) and len(rest) == 1:
        return Give(rest[0])
    if word == "add" and len(rest) == 2 and are_names(rest[:1], 1) and is_integer_word(rest[1]):
        return Add(rest[0], int(rest[1]))
    if word == "call" and are_names(rest, 1):
        return Call(rest[0], rest[1:])
    return None


class LayoutReader:
    """Reads the choices of a layout."""

    def __init__(self):
        self.bundled = []
        self.links = []
        self.opens = []
        self._words = ["layout"]

    def takes(self, level, words):
        """Takes the next line; whether a text may go on so."""
        if level != 0 or words[0] not in self._words:
            return False
        if words[0] == "layout":
            # From now on these lines may come, each behind all those of the words ahead of its own.
            self._words = ["bundle", "linked", "opened"]
            return len(words) == 1
        if not are_names(words, 2):
            return False
        if words[0] == "bundle":
            self.bundled.append(words[1:])
        if words[0] == "linked":
            self.links = words[1:]
            self._words = ["opened"]
        if words[0] == "opened":
            self.opens = words[1:]
            self._words = []
        return True


class KeeperReader:
    """Reads what a keeper keeps: two dicts."""

    def __init__(self):
        self.closures = {}
        self.frames = {}
        self._words = ["keeper"]

    def takes(self, level, words):
        """Takes the next line; whether a text may go on so."""
        if level != 0 or words[0] not in self._words:
            return False
        if words[0] == "keeper":
            self._words = ["closure", "frame"]
            return len(words) == 1
        if words[0] == "closure":
            return self._take_closure(words[1:])
        self._words = ["frame"]
        return self._take_frame(words[1:])

    def _take_closure(self, words):
        if not are_names(words, 2) or words[0] in self.closures:
            return False
        self.closures[words[0]] = words[1:]
        return True

    def _take_frame(self, words):
        if len(words) < 3 or not are_names([words[0], *words[2:]], 2):
            return False
        point = point_of(words[1])
        key = (words[0], point)
        if point is None or key in self.frames:
            return False
        self.frames[key] = words[2:]
        return True


class WorldReader:
    """Reads the turns of a world."""

    def __init__(self):
        self._is_begun = False
        self._turns = []
        self._words = []

    def takes(self, level, words):
        """Takes the next line; whether a text may go on so."""
        if not self._is_begun:
            self._is_begun = True
            return level == 0 and words == ["world"]
        if level == 0 and words[0] == "turn" and are_integers(words[1:], 1):
            self._turns.append({"turn": integers_of(words[1:])})
            self._words = ["choices", "takes", "drops"]
            return True
        if level != 1 or words[0] not in self._words or not are_integers(words[1:], 1):
            return False
        self._turns[-1][words[0]] = integers_of(words[1:])
        self._words = self._words[self._words.index(words[0]) + 1:]
        return True

    def turns(self):
        """The turns that were read."""
        rows = []
        for parts in self._turns:
            closure, *things = parts["turn"]
            others = [parts.get(word, ()) for word in ("choices", "takes", "drops")]
            rows.append((closure, tuple(things), *others))
        return rows

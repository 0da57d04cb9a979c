"""Consoles: lines about writers, and their answers."""

from fivetrees.deciding import alike, constant_text, first_unlike
from fivetrees.errors import InvalidLine, InvalidText, InvalidWriters
from fivetrees.longtexts import LongText
from fivetrees.readings import first_reading, second_reading
from fivetrees.trees import Tree
from fivetrees.writers import Writer


def _shown_tree(tree):
    return "none" if tree is None else str(tree)


def _shown_truth(holds):
    return "yes" if holds else "no"


def _write(writer, tree):
    return writer(tree)


def _length(writer, tree):
    return str(LongText(writer, tree).length)


def _alike(writer, other):
    return _shown_truth(alike(writer, other))


def _first(writer, other):
    return _shown_tree(first_unlike(writer, other))


def _read(writer, text):
    return _shown_tree(first_reading(writer, text))


def _again(writer, text):
    return _shown_tree(second_reading(writer, text))


ANSWERS = {"write": _write, "length": _length, "alike": _alike, "first": _first, "read": _read, "again": _again}
ABOUT_TREES = ("write", "length")
ABOUT_TEXTS = ("read", "again")


def _tree_of(schema, text):
    """The tree of the root kind with this text, None if there is none."""
    try:
        tree = Tree.read(schema, text)
    except InvalidText:
        return None
    return tree if tree.kind == schema.root else None


class Console:
    """Answers lines about writers, which have the numbers from 0 on."""

    def __init__(self, *writers):
        for index, writer in enumerate(writers):
            if not isinstance(writer, Writer) or writer.schema != writers[0].schema:
                raise InvalidWriters(index)
        self._writers = {str(number): writer for number, writer in enumerate(writers)}

    def say(self, line):
        """The answer to the line."""
        if not isinstance(line, str):
            raise InvalidLine(line)
        word, _, rest = line.partition(" ")
        if word == "constant" and rest in self._writers:
            return _shown_truth(constant_text(self._writers[rest]) is not None)
        number, blank, rest = rest.partition(" ")
        other = self._beside(word, number, rest) if blank else None
        if other is None:
            raise InvalidLine(line)
        answer = ANSWERS[word]
        return answer(self._writers[number], other)

    def _beside(self, word, number, text):
        """What the text of a line with this word tells beside the writer with the number, None if it is wrong."""
        if word not in ANSWERS or number not in self._writers:
            return None
        if word in ABOUT_TEXTS:
            return text
        if word in ABOUT_TREES:
            return _tree_of(self._writers[number].schema, text)
        return self._writers.get(text)

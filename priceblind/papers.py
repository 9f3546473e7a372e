"""Papers: answers that show why they are right."""


def fixed(value):
    """The value with each list in it as a tuple, all the way in through lists and tuples."""
    if isinstance(value, (list, tuple)):
        return tuple([fixed(item) for item in value])
    return value


def _likeness(paper):
    # A class cannot be compared itself, so its name stands for it; and as a name could be
    # given to a class of denials and to another one, the side it stands on is told, too.
    return (isinstance(paper, Denial), paper.__class__.__name__, paper.word, paper.parts)


def _are_alike(paper, other):
    return isinstance(other, Paper) and _likeness(paper) == _likeness(other)


class Paper:
    """An answer and what shows it: a word, and parts that never change."""

    def __init__(self, word, *parts):
        self.word = word
        self.parts = fixed(parts)

    def __eq__(self, other):
        return _are_alike(self, other)


class Denial(Paper):
    """A paper that says no: it is false, every other paper is true."""

    def __init__(self, word, *parts):
        super().__init__(word, *parts)

    def __eq__(self, other):
        return _are_alike(self, other)

    def __bool__(self):
        return False

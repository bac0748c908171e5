"""Papers, which tell an answer and what shows it."""


def fixed(value):
    """The value with tuples in the place of lists, all the way in."""
    if isinstance(value, (list, tuple)):
        return tuple([fixed(item) for item in value])
    return value


def is_named(paper, name):
    """Whether the class of the paper has this name: a class below a class of papers is another one."""
    return paper.__class__.__name__ == name


def is_same_paper(paper, value):
    """Whether both are of one class, with equal words and parts."""
    if not isinstance(value, Paper):
        return False
    if paper.__class__.__name__ != value.__class__.__name__:
        return False
    return paper.word == value.word and paper.parts == value.parts


class Paper:
    """An answer that is no denial."""

    def __init__(self, word, *parts):
        self.word = word
        self.parts = fixed(parts)

    def __eq__(self, other):
        return is_same_paper(self, other)

    def __bool__(self):
        return True


class Denial(Paper):
    """An answer that says no."""

    def __eq__(self, other):
        return is_same_paper(self, other)

    def __bool__(self):
        return False

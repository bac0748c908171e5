"""Least mice, and whether two mice do the same."""

from fourstones.alikes import least_lines
from fourstones.errors import Misfit
from fourstones.mice import Mouse, demand_mouse, head_of, leads_of
from fourstones.papers import Denial, Paper, is_named

ANSWERS = ("yes", "no")


class Alike(Paper):
    """The paper of two mice that do the same."""

    def __init__(self):
        super().__init__("alike")


class Unlike(Denial):
    """The denial: answers to the looks of two mice behind which they do unlike things."""

    def __init__(self, answers):
        super().__init__("unlike", answers)
        self.answers = self.parts[0]


def least_of(mouse):
    """The mouse with the fewest lines that does the same, its lines in the order in which they are come to."""
    demand_mouse(mouse, "mouse")
    return Mouse(mouse.stones, least_lines(mouse.lines, len(mouse.lines)))


def demand_two_mice(one, other):
    """Raises what is raised for two mice that are to be compared."""
    demand_mouse(one, "one")
    demand_mouse(other, "other")
    if one.stones != other.stones:
        raise Misfit("other")


def lines_at(one, other, pair):
    """The lines of both mice with the numbers of the pair."""
    return one.lines[pair[0]], other.lines[pair[1]]


def are_unlike(one, other, pair):
    """Whether both mice do or ask unlike things at a pair of lines."""
    line, against = lines_at(one, other, pair)
    return head_of(line) != head_of(against)


def pair_behind(one, other, pair, way):
    """The pair to which both lead by a way: 0 by NEXT or YES, 1 by NO."""
    line, against = lines_at(one, other, pair)
    return leads_of(line)[way], leads_of(against)[way]


def past_deeds(one, other, pair, met):
    """Where both come by deeds that are the same: a pair of looks, of stops or of unlike lines.

    None if they come to a pair that was met before; what is met is added.
    """
    while pair not in met:
        met[pair] = True
        line, against = lines_at(one, other, pair)
        if head_of(line) != head_of(against) or len(leads_of(line)) != 1:
            return pair
        pair = pair_behind(one, other, pair, 0)
    return None


def row_of_answers(rows, at):
    """The answers by which one comes to a row: each row tells its pair, the row ahead of it, its last answer."""
    answers = []
    while at > 0:
        answers.append(rows[at][2])
        at = rows[at][1]
    return answers[::-1]


def row_to_unlike(one, other):
    """The first of the shortest rows of answers behind which both do unlike things, None if they do the same."""
    met = {}
    rows = [((0, 0), 0, "")]
    at = 0
    while at < len(rows):
        pair = past_deeds(one, other, rows[at][0], met)
        if pair is not None:
            if are_unlike(one, other, pair):
                return row_of_answers(rows, at)
            # Behind a stop there is no way on.
            for way in range(len(leads_of(one.lines[pair[0]]))):
                rows.append((pair_behind(one, other, pair, way), at, ANSWERS[way]))
        at += 1
    return None


def judged_mice(one, other):
    """The Alike of two mice that do the same, otherwise the Unlike of the shortest row."""
    demand_two_mice(one, other)
    answers = row_to_unlike(one, other)
    return Alike() if answers is None else Unlike(answers)


def is_answer(value):
    """Whether any value is an answer."""
    return isinstance(value, str) and value in ANSWERS


def kept_end(one, other, begin, ends):
    """As past_deeds, from a pair where nothing was met; a row may come there many times, so the end is kept."""
    if begin not in ends:
        ends[begin] = past_deeds(one, other, begin, {})
    return ends[begin]


def shows_row(one, other, answers):
    """Whether these are answers to looks that both make, behind the last of which they do unlike things."""
    if not isinstance(answers, tuple) or not all([is_answer(answer) for answer in answers]):
        return False
    ends = {}
    begin = (0, 0)
    for answer in answers:
        pair = kept_end(one, other, begin, ends)
        if pair is None or are_unlike(one, other, pair) or not leads_of(one.lines[pair[0]]):
            return False
        begin = pair_behind(one, other, pair, ANSWERS.index(answer))
    pair = kept_end(one, other, begin, ends)
    return pair is not None and are_unlike(one, other, pair)


def shows_mice(one, other, value):
    """Whether the value is the Alike of mice that do the same, or an Unlike of any row that shows that they do not."""
    demand_two_mice(one, other)
    if isinstance(value, Alike) and is_named(value, "Alike"):
        return row_to_unlike(one, other) is None
    if isinstance(value, Unlike) and is_named(value, "Unlike"):
        return shows_row(one, other, value.answers)
    return False

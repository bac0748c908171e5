"""Lines that are alike, as the lines of mice are if mice that begin with them do the same; the fewest lines."""

from fourstones.mice import head_of, leads_of


def numbers_of_heads(lines):
    """For each line a number; two are the same if what is done or asked by both lines is the same."""
    known = {}
    numbers = []
    for line in lines:
        head = head_of(line)
        if head not in known:
            known[head] = len(known)
        numbers.append(known[head])
    return numbers


def sources_of(lines):
    """For each of the two ways to lead on, for each line, the lines that lead to it by this way."""
    sources = ([[] for _ in lines], [[] for _ in lines])
    for at, line in enumerate(lines):
        for way, to in enumerate(leads_of(line)):
            sources[way][to].append(at)
    return sources


class Lots:
    """Lines in lots, which are parted till all lines of each lot lead to the same lots.

    This is Hopcroft's way: of the two parts of a lot only the lesser one is looked at again, so that mice of many
    lines take a short time.
    """

    def __init__(self, lines):
        self.numbers = numbers_of_heads(lines)
        self.members = [{} for _ in range(1 + max(self.numbers))]
        for at, number in enumerate(self.numbers):
            self.members[number][at] = True
        self.sources = sources_of(lines)
        self.waiting = list(range(len(self.members)))
        self.waits = [True for _ in self.members]

    def part_all(self, most):
        """Parts the lots till there is nothing more to part, or till these are more than most."""
        while self.waiting and len(self.members) <= most:
            number = self.waiting.pop()
            self.waits[number] = False
            members = list(self.members[number])
            for sources in self.sources:
                self.part_by(members, sources)

    def part_by(self, members, sources):
        """Parts the lots into lines that lead to some lines by a way, and lines that do not."""
        leading = {}
        for to in members:
            for at in sources[to]:
                leading.setdefault(self.numbers[at], []).append(at)
        for number, lines in leading.items():
            if len(lines) < len(self.members[number]):
                self.part_lot(number, lines)

    def part_lot(self, number, lines):
        """Gives some, not all, lines of a lot a lot of their own."""
        new = len(self.members)
        for at in lines:
            self.members[number].pop(at)
            self.numbers[at] = new
        self.members.append({at: True for at in lines})
        self.waits.append(False)
        lesser = new if len(lines) <= len(self.members[number]) else number
        self.let_wait(new if self.waits[number] else lesser)

    def let_wait(self, number):
        """The lot is to be looked at."""
        self.waits[number] = True
        self.waiting.append(number)


def lines_come_to(lines, numbers):
    """A line for each lot that is come to from line 0, in the order in which they are; numbers tells the lots."""
    order = [0]
    places = {numbers[0]: 0}
    done = 0
    while done < len(order):
        for to in leads_of(lines[order[done]]):
            if numbers[to] not in places:
                places[numbers[to]] = len(order)
                order.append(to)
        done += 1
    told = []
    for at in order:
        leads = [places[numbers[to]] for to in leads_of(lines[at])]
        told.append((*head_of(lines[at]), *leads))
    return told


def least_lines(lines, most):
    """The lines of the least mouse that does the same as one with these lines, None if these are more than most."""
    own = lines_come_to(lines, list(range(len(lines))))
    lots = Lots(own)
    lots.part_all(most)
    if len(lots.members) > most:
        return None
    return lines_come_to(own, lots.numbers)

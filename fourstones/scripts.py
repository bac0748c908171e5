"""Scripts: texts that tell what a mouse does."""

from fourstones.errors import BadScript
from fourstones.script_places import Places
from fourstones.script_reader import Reader


class Script:
    """A script; beside what its text tells, the table of its places, and the one where the mouse begins."""

    def __init__(self, text):
        reader = Reader(text)
        reader.take_script()
        self.text = text
        self.stones = reader.stones
        self.parts = tuple(list(reader.parts))
        self.flags = tuple(list(reader.flags))
        places = Places()
        for name, deeds in reader.parts.items():
            places.put_part(name, deeds)
        self.begin = places.put_mouse(reader.deeds)
        self.places = tuple(places.rows)

    def __eq__(self, other):
        return isinstance(other, Script) and self.text == other.text

    def __str__(self):
        return str(self.text)


def demand_script(value, part):
    """Raises BadScript(part) for no script."""
    if not isinstance(value, Script):
        raise BadScript(part)

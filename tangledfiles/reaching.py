"""What files reach, and the code lines that come to stand in none."""

from tangledfiles.blocks import live_numbers
from tangledfiles.lines import CodeLine
from tangledfiles.lines import names_used


def names_used_live(document, variant, numbers):
    """The names that live lines of the parts with these numbers use, as often as they come."""
    names = []
    for block in numbers:
        part = document.blocks[block]
        for number in live_numbers(part, variant):
            names.extend(names_used(part.lines[number].pieces))
    return names


def add_new(names, known, more):
    """Adds to the names those of more that are new. known has each name too: thousands may be asked for."""
    for name in more:
        if name not in known:
            known[name] = True
            names.append(name)


def names_reached(document, variant, numbers):
    """The names that the parts with these numbers reach, each once, in the order in which they are found."""
    names = []
    known = {}
    add_new(names, known, names_used_live(document, variant, numbers))
    at = 0
    while at < len(names):
        # A use may tell a name that no part has.
        parts = document.chunks.get(names[at], [])
        add_new(names, known, names_used_live(document, variant, parts))
        at += 1
    return names


def idle_lines(document, variant):
    """The places (block and line) of the code lines that are not live or that no file reaches."""
    numbers = []
    for path in document.files:
        numbers.extend(document.files[path])
    reached = dict([(name, True) for name in names_reached(document, variant, numbers)])
    places = []
    for block, part in enumerate(document.blocks):
        if part is not None:
            live = {}
            if part.of_file or part.name in reached:
                live = dict([(number, True) for number in live_numbers(part, variant)])
            places.extend([(block, number) for number in code_numbers(part) if number not in live])
    return places


def code_numbers(part):
    """The numbers of the code lines of a part."""
    return [number for number, line in enumerate(part.lines) if isinstance(line, CodeLine)]

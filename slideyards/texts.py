"""Layer 0: texts of yards and stands, and of promises.

The functions that read raise BadText with the first wrong column; a text of
many lines makes BadLine of it.
"""

from slideyards.basics import frozen
from slideyards.errors import BadLine, BadText
from slideyards.yards import Yard, both_ways

LETTERS = "abcdefghijklmnopqrstuvwxyz"
FIGURES = "0123456789"
RUN_SIGNS = "abcdefghijklmnopqrstuvwxyz_0123456789"
NAME_MOST = 12
WORDS = ("yard", "places", "tie", "way", "ring", "stand", "end", "to", "never")
INNER_WORDS = ("tie", "way", "ring", "stand", "end")
PROMISE_WORDS = ("to", "never")


class Spoken:
    """A yard with a name, and named stands of it."""

    def __init__(self, name, yard, stands):
        self.name = frozen(name)
        self.yard = frozen(yard)
        self.stands = frozen(stands)


class Draft:
    """A yard that a text is telling: what is not told yet is None."""

    def __init__(self):
        self.name = None
        self.places = None
        self.ties = []
        self.rings = []
        self.stands = []


def is_name(value):
    """Whether any value is a name."""
    if not isinstance(value, str) or not 1 <= len(value) <= NAME_MOST:
        return False
    if value[0] not in LETTERS or value in WORDS:
        return False
    return all([sign in RUN_SIGNS for sign in value])


def past_signs(text, at, signs):
    """Where the longest run of these signs ends that begins at a place of a text."""
    end = at
    while end < len(text) and text[end] in signs:
        end += 1
    return end


def past_spaces(text, at):
    """Where the spaces end that may stand there."""
    return past_signs(text, at, " ")


def past_gap(text, at):
    """Where the spaces end of which one at least has to stand there."""
    end = past_spaces(text, at)
    if end == at:
        raise BadText(at + 1)
    return end


def check_end(text, at):
    """Takes nothing but spaces at the end of a text."""
    end = past_spaces(text, at)
    if end < len(text):
        raise BadText(end + 1)


def read_word(text, at, words):
    """The one of these words that stands there, and where it ends."""
    end = at
    while end < len(text) and any([word.startswith(text[at:end + 1]) for word in words]):
        end += 1
    if text[at:end] not in words:
        raise BadText(end + 1)
    return text[at:end], end


def read_name(text, at):
    """The whole name that stands there, and where it ends."""
    end = past_signs(text, at, RUN_SIGNS)
    if is_name(text[at:end]):
        return text[at:end], end
    if end == at or text[at] not in LETTERS:
        raise BadText(at + 1)
    # A word of the text could go on and be a name, so it is wrong only behind its end.
    raise BadText(min(end, at + NAME_MOST) + 1)


def read_number(text, at):
    """The whole number of one or two figures that stands there, and where it ends."""
    most = 1 if text.startswith("0", at) else 2
    end = min(past_signs(text, at, FIGURES), at + most)
    if end == at or end < past_signs(text, at, RUN_SIGNS):
        raise BadText(end + 1)
    return int(text[at:end]), end


def read_places(text, at, places, is_ring):
    """A row of places up to the end of a line: of a ring, or each one tied to the next one."""
    least = 3 if is_ring else 2
    row = []
    end = at
    while len(row) < least or past_spaces(text, end) < len(text):
        begin = past_spaces(text, end)
        place, end = read_number(text, begin)
        barred = row if is_ring else row[-1:]
        if place >= places or place in barred:
            raise BadText(begin + 1)
        row.append(place)
    return row


def read_things(text, at, places):
    """The things and holes of a stand, for so many places, up to the end of a line."""
    row = []
    end = at
    while len(row) < places:
        begin = past_spaces(text, end)
        if text.startswith(".", begin):
            thing, end = 0, begin + 1
        else:
            thing, end = read_number(text, begin)
            if thing == 0:
                raise BadText(begin + 1)
        row.append(thing)
    check_end(text, end)
    return tuple(row)


def read_new_name(text, at, names):
    """A whole name that is none of these, and where it ends."""
    name, end = read_name(text, at)
    if name in names:
        raise BadText(at + 1)
    return name, end


def read_yard_line(line, at, names):
    """The name of a yard that a line begins; names are those of the yards ahead."""
    _, end = read_word(line, at, ("yard",))
    name, end = read_new_name(line, past_gap(line, end), names)
    check_end(line, end)
    return name


def read_places_line(line, at):
    """How many places a yard has."""
    _, end = read_word(line, at, ("places",))
    begin = past_gap(line, end)
    places, end = read_number(line, begin)
    if places == 0:
        raise BadText(begin + 1)
    check_end(line, end)
    return places


def read_inner_line(line, at, draft):
    """Puts what a line within a yard tells into the draft; whether the line ends the yard."""
    word, end = read_word(line, at, INNER_WORDS)
    if word == "end":
        check_end(line, end)
        return True
    begin = past_gap(line, end)
    if word == "stand":
        name, end = read_new_name(line, begin, [name for name, _ in draft.stands])
        draft.stands.append((name, read_things(line, end, draft.places)))
    elif word == "ring":
        draft.rings.append(read_places(line, begin, draft.places, True))
    else:
        row = read_places(line, begin, draft.places, False)
        pairs = list(zip(row, row[1:]))
        draft.ties.extend(both_ways(pairs) if word == "tie" else pairs)
    return False


def read_line(line, draft, names):
    """Puts what a line tells into the draft; whether the line ends the yard."""
    at = past_spaces(line, 0)
    if at == len(line):
        return False
    if draft.name is None:
        draft.name = read_yard_line(line, at, names)
        return False
    if draft.places is None:
        draft.places = read_places_line(line, at)
        return False
    return read_inner_line(line, at, draft)


def lines_of(text):
    """The lines of a text: the last one may have no line end, but is not empty then."""
    lines = text.split("\n")
    if lines[-1] == "":
        lines.pop()
    return lines


def spoken_of(text):
    """The tuple of the spoken yards that a text tells."""
    if not isinstance(text, str):
        raise BadLine(0, 0)
    told = []
    draft = Draft()
    lines = lines_of(text)
    for number, line in enumerate(lines, start=1):
        try:
            is_whole = read_line(line, draft, [spoken.name for spoken in told])
        except BadText as wrong:
            raise BadLine(number, wrong.column) from None
        if is_whole:
            # A tie may be told more than once, but stands in a yard once.
            yard = Yard(draft.places, sorted(set(draft.ties)), draft.rings)
            told.append(Spoken(draft.name, yard, draft.stands))
            draft = Draft()
    if draft.name is not None:
        raise BadLine(len(lines) + 1, 1)
    return tuple(told)


def line_of(words, numbers):
    """A line of words and numbers, with single spaces."""
    return " ".join(words + [str(number) for number in numbers])


def stand_line(name, stand):
    """The line that tells a stand."""
    return " ".join(["stand", name] + ["." if thing == 0 else str(thing) for thing in stand])


def text_of(spoken):
    """The text of a spoken yard."""
    yard = spoken.yard
    ties = set(yard.ties)
    lines = [line_of(["places"], [yard.places])]
    lines.extend([line_of(["tie"], [a, b]) for a, b in yard.ties if a < b and (b, a) in ties])
    lines.extend([line_of(["way"], [a, b]) for a, b in yard.ties if (b, a) not in ties])
    lines.extend([line_of(["ring"], ring) for ring in yard.rings])
    lines.extend([stand_line(name, stand) for name, stand in spoken.stands])
    inner = "".join([f"  {line}\n" for line in lines])
    return f"yard {spoken.name}\n{inner}end\n"


def promise_of(text):
    """The tuple (yard, "to" or "never", stand, other stand) that a promise text tells."""
    if not isinstance(text, str):
        raise BadText(0)
    yard, end = read_name(text, past_spaces(text, 0))
    one, end = read_name(text, past_gap(text, end))
    word, end = read_word(text, past_gap(text, end), PROMISE_WORDS)
    other, end = read_name(text, past_gap(text, end))
    check_end(text, end)
    return yard, word, one, other


def promise_text(promise):
    """The text of a promise."""
    yard, word, one, other = promise
    return f"{yard} {one} {word} {other}"

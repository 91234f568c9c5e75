"""The lines of a shell: how many words they have, and what these tell."""

from boundonce.deedtexts import read_deed
from boundonce.errors import InvalidLine, InvalidText
from boundonce.names import is_name
from boundonce.texts import read

SIZES = {"new": 4, "enter": 5, "leave": 3, "begin": 3, "commit": 3, "revert": 3, "count": 2}

# These lines end in texts, behind so many words.
WITH_TEXTS = ("perform", "ask", "watch", "alike", "lean", "paths")
AHEAD_OF_TEXTS = 3


def parsed_line(line):
    """Return the first word of a line, the name of its cache, and the tuple of what the rest of it tells."""
    if not isinstance(line, str):
        raise InvalidLine("a line is a string")
    words = line.split(" ")
    if "" in words or not has_its_size(words) or not is_name(words[1]):
        raise InvalidLine("no line has these words")
    return words[0], words[1], told_by(words[0], words[2:])


def has_its_size(words):
    """Return whether words are as many as in a line that begins with the first one."""
    if words[0] in WITH_TEXTS:
        return len(words) > AHEAD_OF_TEXTS
    return words[0] in SIZES and len(words) == SIZES[words[0]]


def told_by(word, rest):
    """Return the tuple of what is told by the rest of a line."""
    if word == "new":
        return (tuple(rest[0].split(",")), tuple([tuple(cast.split(">")) for cast in parts_of(rest[1])]))
    if word == "enter":
        return (rest[0], parts_of(rest[1]), rest[2])
    if word not in WITH_TEXTS:
        return tuple(rest)
    try:
        return (rest[0],) + told_by_texts(word, " ".join(rest[1:]))
    except InvalidText:
        raise InvalidLine("a text in the line is none") from None


def parts_of(word):
    """Return the tuple of the parts of a list, which is - if it is of nothing."""
    if word == "-":
        return ()
    return tuple(word.split(","))


def told_by_texts(word, text):
    """Return the tuple of what the texts of a line tell."""
    if word == "perform":
        return (read_deed(text),)
    if word != "alike":
        return (read(text),)
    texts = text.split(" / ")
    if len(texts) != 2:
        raise InvalidText("these are not two texts")
    return (read(texts[0]), read(texts[1]))

"""Steps written as texts: a row for each step."""

from lastseen.errors import BadText

WORDS = ("see", "pass", "ask")
MOST_FIGURES = 4


def written(steps):
    """The steps as a text."""
    return "\n".join([f"{word} {number}" for word, number in steps])


def read(text):
    """The steps that the text is written for."""
    # No steps are no row, but splitting would make an empty one.
    if text == "":
        return []
    steps = []
    for row, line in enumerate(text.split("\n")):
        words = line.split(" ")
        if not _is_step(words):
            raise BadText(row)
        steps.append((words[0], int(words[1])))
    return steps


def _is_step(words):
    return len(words) == 2 and words[0] in WORDS and _is_number(words[1])


def _is_number(word):
    # There are other figures than those from 0 to 9, and int would take them too.
    if not word.isascii() or not word.isdigit():
        return False
    if len(word) > MOST_FIGURES:
        return False
    return word == "0" or not word.startswith("0")

"""Works written as lines, and lines read to works.

A work is a tuple (hand, word, value, begun, ended). Numbers are turned into figures and
back here, since Python's own way refuses those of some thousand figures, and on reading
takes blanks, noughts ahead and other signs that no line has.
"""

from halfask.errors import NoLine

FIGURES = "0123456789"


def shown(works):
    return [line_of(work) for work in works]


def line_of(work):
    parts = [figures_of(work[0]), work[1] + "s"]
    if work[2] is not None:
        parts.append(figures_of(work[2]))
    parts.extend(["from", figures_of(work[3])])
    if work[4] is not None:
        parts.extend(["to", figures_of(work[4])])
    return " ".join(parts)


def figures_of(number):
    if number < 0:
        return "-" + figures_of(-number)
    figures = FIGURES[number % 10]
    rest = number // 10
    while rest > 0:
        figures = FIGURES[rest % 10] + figures
        rest = rest // 10
    return figures


def read(lines):
    works = []
    for line in lines:
        work = work_of(line)
        if works and work[3] <= works[-1][3]:
            raise NoLine("a line's beginning is no greater than that of the line ahead of it")
        works.append(work)
    return works


def work_of(line):
    parts = line.split(" ")
    words = parts[1::2]
    if len(parts) == 4 and parts[1:3] == ["reads", "from"]:
        return (count_of(parts[0]), "read", None, count_of(parts[3]), None)
    if len(parts) == 5 and words == ["writes", "from"]:
        return (count_of(parts[0]), "write", value_of(parts[2]), count_of(parts[4]), None)
    if len(parts) == 7 and words == ["writes", "from", "to"]:
        return ended_work("write", parts)
    if len(parts) == 7 and words == ["reads", "from", "to"]:
        return ended_work("read", parts)
    raise NoLine("a line has not the form of a work")


def ended_work(word, parts):
    begun = count_of(parts[4])
    ended = count_of(parts[6])
    if ended <= begun:
        raise NoLine("an end is no greater than its beginning")
    return (count_of(parts[0]), word, value_of(parts[2]), begun, ended)


def value_of(text):
    if not text.startswith("-"):
        return count_of(text)
    value = -count_of(text[1:])
    if value == 0:
        raise NoLine("nought stands with no sign ahead")
    return value


def count_of(text):
    if text == "" or (text[0] == "0" and text != "0"):
        raise NoLine("a number has no figures, or a nought ahead of them")
    count = 0
    for sign in text:
        if sign not in FIGURES:
            raise NoLine("a number has a sign that is no figure")
        count = count * 10 + FIGURES.index(sign)
    return count

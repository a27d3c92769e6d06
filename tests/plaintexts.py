"""Whether a text can be led on, told plainly from the words of the document, form by form."""

import re

from tests.samples import MOST_HEAP, RESERVED
from tests.smalltexts import LINES, line_goes_on

NAME = "[a-z][a-z0-9]{0,7}"


def is_whole_name(name):
    return re.fullmatch(NAME, name) is not None and name not in RESERVED


def name_goes_on(start, used=()):
    """Whether some name begins with start that is none of the used ones."""
    if start != "" and re.fullmatch(NAME, start) is None:
        return False
    size = len(start)
    many = sum(36 ** more for more in range(9 - size)) if size else 10 ** 9
    taken = [name for name in list(used) + RESERVED if name.startswith(start)]
    return many > len(taken)


def number_goes_on(start, low, high):
    """Whether some number from low to high, as Python writes it, begins with start."""
    if start == "":
        return low <= high
    if not start.isascii() or not start.isdigit() or (start[0] == "0" and start != "0"):
        return False
    if start == "0":
        return low <= 0
    return any(max(low, int(start + "0" * more)) <= min(high, int(start + "9" * more)) for more in range(20))


def is_whole_number(text, low, high):
    return re.fullmatch("0|[1-9][0-9]*", text) is not None and low <= int(text) <= high


def pair_goes_on(start, most):
    """Whether `NAME HEAP` with a line feed can begin so."""
    name, blank, rest = start.partition(" ")
    if not blank:
        return name_goes_on(name)
    if not is_whole_name(name):
        return False
    if rest.endswith("\n"):
        return is_whole_number(rest[:-1], 1, most)
    return number_goes_on(rest, 1, most)


def option_goes_on(start, most):
    if "none\n".startswith(start):
        return True
    first, comma, second = start.partition(", ")
    if first.endswith(","):
        return is_whole_number(first[:-1], 1, most)
    if not comma:
        return is_whole_number(first[:-1], 1, most) if first.endswith("\n") else number_goes_on(first, 1, most)
    if not is_whole_number(first, 1, most):
        return False
    if second.endswith("\n"):
        return is_whole_number(second[:-1], int(first), most)
    return number_goes_on(second, int(first), most)


def move_goes_on(start, most):
    """Whether `move NAME HEAP to ..` with a line feed can begin so."""
    if "move ".startswith(start):
        return True
    if not start.startswith("move "):
        return False
    parts = start[5:].split(" ", 2)
    if len(parts) == 1:
        return name_goes_on(parts[0])
    if not is_whole_name(parts[0]):
        return False
    if len(parts) == 2:
        return number_goes_on(parts[1], 1, most)
    if not is_whole_number(parts[1], 1, most):
        return False
    return "to ".startswith(parts[2]) or (parts[2].startswith("to ") and option_goes_on(parts[2][3:], most))


def says(start):
    return "win\n".startswith(start) or "lose\n".startswith(start)


def position_goes_on(text, most=MOST_HEAP):
    """Whether some position's text begins so."""
    return all(line == "" or pair_goes_on(line, most) for line in re.findall("[^\n]*\n|[^\n]+", text))


def position_reads(text):
    return (text == "" or text.endswith("\n")) and position_goes_on(text)


def claim_goes_on(text, most=MOST_HEAP):
    """Whether some claim's text begins so."""
    lines = re.findall("[^\n]*\n|[^\n]+", text)
    for at, line in enumerate(lines):
        said = says(line) or move_goes_on(line, most)
        if not said and not pair_goes_on(line, most):
            return False
        if said and line.endswith("\n") and at < len(lines) - 1:
            return False
    return True


def claim_reads(text):
    last = text.split("\n")[-2:-1]
    return text.endswith("\n") and claim_goes_on(text) and (last[0] in ("win", "lose") or last[0].startswith("move "))


def house_goes_on(text):
    """Whether some house's text begins so, where numbers have one figure."""
    names = []
    used = None
    for line in re.findall("[^\n]*\n|[^\n]+", text):
        name = line[5:]
        if line.startswith("book ") and line.endswith("\n"):
            if not is_whole_name(name[:-1]) or name[:-1] in names:
                return False
            names.append(name[:-1])
            used = []
        elif line.endswith("\n"):
            if used is None or line not in LINES or not line_goes_on(line, used):
                return False
            used.append(line)
        elif not "book ".startswith(line) and not (line.startswith("book ") and name_goes_on(name, names)):
            if used is None or not line_goes_on(line, used):
                return False
    return True


def house_reads(text):
    return (text == "" or text.endswith("\n")) and house_goes_on(text)


def paper_line_goes_on(heads, count, line, most):
    """Whether a paper's next line, so many values being there, can begin so."""
    if len(heads) == 3 and count == heads[0] + heads[1]:
        return False
    word = ["begin ", "period ", "gain ", "value "][len(heads)]
    low = [1, 1, 0, 0][len(heads)]
    high = 0 if len(heads) == 3 and count == 0 else most
    if word.startswith(line):
        return True
    if not line.startswith(word):
        return False
    number = line[len(word):]
    return is_whole_number(number[:-1], low, high) if number.endswith("\n") else number_goes_on(number, low, high)


def papers_state(text, named, most):
    """Whether some text of papers, or of one paper, begins so, and whether it is whole."""
    names = []
    heads, count = (None, 0) if named else ([], 0)
    whole = named
    for line in re.findall("[^\n]*\n|[^\n]+", text):
        done = heads is None or (len(heads) == 3 and count == heads[0] + heads[1])
        if named and done:
            name = line[5:]
            if line.endswith("\n"):
                if not line.startswith("book ") or not is_whole_name(name[:-1]) or name[:-1] in names:
                    return (False, False)
                names.append(name[:-1])
                heads, count = [], 0
            elif not "book ".startswith(line) and not (line.startswith("book ") and name_goes_on(name, names)):
                return (False, False)
            whole = False
            continue
        if not paper_line_goes_on(heads, count, line, most):
            return (False, False)
        if line.endswith("\n"):
            if len(heads) < 3:
                heads = heads + [int(line.split()[1])]
            else:
                count += 1
        whole = line.endswith("\n") and len(heads) == 3 and count == heads[0] + heads[1]
    return (True, whole)


def paper_goes_on(text):
    return papers_state(text, False, 10 ** 19 - 1)[0]


def paper_reads(text):
    return papers_state(text, False, 10 ** 19 - 1)[1]


def papers_goes_on(text):
    return papers_state(text, True, 10 ** 19 - 1)[0]


def papers_reads(text):
    return papers_state(text, True, 10 ** 19 - 1)[1]


def named_heap_goes_on(start, names, most):
    """Whether `NAME HEAP` with a line feed can begin so, with one of these names."""
    for name in names:
        rest = start[len(name) + 1:]
        if (name + " ").startswith(start):
            return True
        if start.startswith(name + " "):
            return is_whole_number(rest[:-1], 1, most) if rest.endswith("\n") else number_goes_on(rest, 1, most)
    return False


def asking_goes_on(start, names, most):
    """Whether `watch QUESTION` or `hold QUESTION` with a line feed can begin so."""
    for word in ("watch ", "hold "):
        rest = start[len(word):]
        if word.startswith(start):
            return True
        if start.startswith(word):
            if any((plain + "\n").startswith(rest) for plain in ("wins", "moves", "winning")):
                return True
            if "value ".startswith(rest):
                return len(names) > 0
            return rest.startswith("value ") and named_heap_goes_on(rest[6:], names, most)
    return False


def session_goes_on(text, most=9):
    """Whether some session's text begins so, where numbers have one figure; a question that stands counts as read."""
    names, used, asked, stage = [], None, [], 0
    for line in re.findall("[^\n]*\n|[^\n]+", text):
        if stage == 0 and house_goes_on("".join(f"book {name}\n" for name in names) + "".join(used or []) + line):
            if line.endswith("\n"):
                if line.startswith("book "):
                    names.append(line[5:-1])
                    used = []
                else:
                    used.append(line)
            continue
        put = "put ".startswith(line) and names or line.startswith("put ") and named_heap_goes_on(line[4:], names, most)
        if stage < 2 and put:
            stage = 1
            continue
        if not asking_goes_on(line, names, most) or (line.endswith("\n") and line.split(" ", 1)[1] in asked):
            return False
        if line.endswith("\n"):
            stage = 2
            asked.append(line.split(" ", 1)[1])
    return True


def session_reads(text):
    return (text == "" or text.endswith("\n")) and session_goes_on(text)

"""A plain reading of [10.2]: lines by patterns, and drawn texts that are spoiled somewhere."""
import re

NUMBER = "(?:0|[1-9][0-9]{0,19})"
INTEGER = "(?:0|-?[1-9][0-9]{0,19})"
WORD = f"(?:pour {NUMBER}|push {NUMBER} {NUMBER}|yes|no {NUMBER}|rise {NUMBER})"
HOUSES = f"houses {NUMBER} {NUMBER} {NUMBER}"
TIE = f"tie {NUMBER} {NUMBER} {NUMBER} {NUMBER}"
EVENT = f"(?:start {NUMBER}|still {NUMBER}|take {NUMBER} {NUMBER} {WORD})"
# For each sort of text: the first line, whether it may lack, and the lines behind it.
FORMS = {
    "web": (HOUSES, False, TIE),
    "stream": (f"stream(?: {INTEGER})*", False, None),
    "split": (f"way {NUMBER}(?: {NUMBER})+", True, f"way {NUMBER}(?: {NUMBER})+"),
    "moves": (f"(?:start {NUMBER}|take {NUMBER} {NUMBER})", True, f"(?:start {NUMBER}|take {NUMBER} {NUMBER})"),
    "record": (HOUSES, False, f"(?:{TIE}|{EVENT})"),
}
PARTS = ("houses", "tie", "stream", "way", "start", "take", "still", "pour", "push", "yes", "no", "rise", "0", "1", "2",
         "10", "01", "-1", "-0", "00", "+1", "1.0", "9" * 20, "9" * 21, "-" + "9" * 20, "-" + "9" * 21, "", "Take", "a",
         "-", "1e3", "1_0", "0x1", "--1", "1-", "taken", "true")


def bad_line(sort, text):
    """The number of the first line that has not the form that is due, None if each has it."""
    first, may_lack, behind = FORMS[sort]
    *lines, rest = text.split("\n")
    events = False
    for at, line in enumerate(lines):
        due = first if at == 0 else behind
        if due is None or not re.fullmatch(due, line):
            return at + 1
        if sort == "record" and at > 0:
            if events and line.startswith("tie "):
                return at + 1
            events = events or not line.startswith("tie ")
    if rest or (not lines and not may_lack):
        return len(lines) + 1
    return None


def plain_words(line):
    return [int(part) if re.fullmatch(INTEGER, part) else part for part in line.split(" ")]


def plain_told(sort, text):
    """What a text without a bad line tells, as plain tuples; of webs and records the pair of lines and events."""
    lines = [plain_words(line) for line in text.split("\n")[:-1]]
    if sort == "stream":
        return tuple(lines[0][1:])
    if sort == "split":
        return tuple((tuple(line[2:]), line[1]) for line in lines)
    if sort == "moves":
        return tuple(tuple(line) for line in lines)
    _, many, spring, mouth = lines[0]
    ties = tuple(tuple(line[1:]) for line in lines if line[0] == "tie")
    events = tuple(tuple(line) if line[0] != "take" else (*line[:3], tuple(line[3:]))
                   for line in lines if line[0] in ("start", "still", "take"))
    return (many, ties, spring, mouth), events


def spoiled_text(draw, text):
    """The text with lines, words, figures, blanks or line feeds put in, left out or exchanged."""
    lines = text.split("\n")
    at = draw.below(len(lines))
    place = draw.below(len(text) + 1)
    deed = draw.below(9)
    if deed == 0:
        return "\n".join(lines[:at] + lines[at + 1:])
    if deed == 1:
        return "\n".join(lines[:at] + [draw.one_of(lines)] + lines[at:])
    if deed == 2:
        other = draw.below(len(lines))
        lines[at], lines[other] = lines[other], lines[at]
        return "\n".join(lines)
    if deed < 6:
        words = lines[at].split(" ")
        k = draw.below(len(words))
        words[k:k + draw.below(2)] = draw.one_of(([], [draw.one_of(PARTS)], [draw.one_of(words)]))
        lines[at] = " ".join(words)
        return "\n".join(lines)
    if deed == 6:
        return text[:place] + draw.one_of((" ", "\n", "0", "-", "7", "|", "~")) + text[place:]
    if deed == 7:
        return text[:place] + text[place + 1:]
    return draw.one_of((text[:-1], text + "x", text + "\n", text + " ", text[:place], ""))

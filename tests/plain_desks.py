"""A plain account of [10.5]: lines by patterns, webs with their moves, and what the functions tell of them."""
import re

from moststream.ends import bounds, stream_of
from moststream.errors import NoHouse, NoLine, NoName
from moststream.films import drawn, drawn_heights, drawn_stream
from moststream.glass import broken, first_glass, moved, moves
from moststream.records import first_wrong, longest_chain, recorded, seen
from moststream.streams import is_stream, most, side_of
from moststream.texts import moves_text, read_record, read_web, record_text, web_text

NAME = "([a-z]{1,8})"
NUMBER = "(0|[1-9][0-9]{0,19})"
PLAIN = ["start", "out", "source", "done", "next", "view", "heights", "stream", "steps", "broken", "holds", "most",
         "side", "bounds"]
RECORD_WORDS = ["events", "wrong", "chain", "seen"]
LINES = [f"(web|record) {NAME} (.+)", f"(tell) {NAME} {NAME}((?: {NUMBER})*)", f"(take) {NAME} {NUMBER} {NUMBER}",
         f"(back|state|seen) {NAME} {NUMBER}", f"({'|'.join(PLAIN + RECORD_WORDS[:3])}) {NAME}"]


class PlainDesk:
    def __init__(self):
        self.webs = {}
        self.records = {}

    def glass(self, name):
        """The glass behind the moves made, which are made again each time."""
        web, made = self.webs[name]
        glass = first_glass(web)
        for move in made:
            glass = moved(web, glass, move)
        return glass

    def tell(self, line):
        """What is told, or an error of the package that is raised."""
        found = None
        if isinstance(line, str) and "\n" not in line:
            found = next((match for match in (re.fullmatch(form, line) for form in LINES) if match), None)
        if not found:
            raise NoLine()
        sort, name, *parts = found.groups()
        if sort == "web":
            self.webs[name] = (read_web(parts[0].replace("|", "\n")), [])
            return "ok"
        if sort == "record":
            self.records[name] = read_record(parts[0].replace("|", "\n"))
            return "ok"
        if sort == "tell":
            if parts[0] not in self.webs:
                raise NoName(parts[0])
            self.records[name] = recorded(self.webs[parts[0]][0], [int(word) for word in parts[1].split()])
            return "ok"
        if name not in (self.records if sort in RECORD_WORDS else self.webs):
            raise NoName(name)
        if sort in RECORD_WORDS:
            return self.of_record(sort, self.records[name], parts)
        return self.of_web(sort, name, [int(part) for part in parts])

    def of_record(self, sort, record, parts):
        if sort == "events":
            return record_text(record).replace("\n", "|")
        if sort == "wrong":
            return "none" if first_wrong(record) is None else "{} {}".format(*first_wrong(record))
        if sort == "chain":
            return str(longest_chain(record))
        return str(len(seen(record, int(parts[0]))))

    def of_web(self, sort, name, numbers):
        web, made = self.webs[name]
        glass = self.glass(name)
        if sort in ("start", "take"):
            move = ("start", web.spring) if sort == "start" else ("take", *numbers)
            moved(web, glass, move)
            made.append(move)
            return "ok"
        if sort == "back":
            del made[max(0, len(made) - numbers[0]):]
            return "ok"
        if sort == "out":
            while moves(web, glass):
                made.append(moves(web, glass)[0])
                glass = moved(web, glass, made[-1])
            return "ok"
        if sort == "state":
            if numbers[0] >= web.many:
                raise NoHouse()
            return "{} {} {}".format(*glass[0][numbers[0]])
        return self.shown(sort, web, made, glass).replace("\n", "|")

    def shown(self, sort, web, made, glass):
        stream = stream_of(web, glass)
        side = side_of(web, stream) if is_stream(web, stream) else None
        return {
            "source": lambda: web_text(web),
            "done": lambda: moves_text(made) or "none",
            "next": lambda: moves_text(moves(web, glass)) or "none",
            "view": lambda: drawn(web, glass),
            "heights": lambda: drawn_heights(web, glass),
            "stream": lambda: drawn_stream(web, stream) if is_stream(web, stream) else "none",
            "steps": lambda: str(len(made)),
            "broken": lambda: " ".join(broken(web, glass)) or "none",
            "holds": lambda: " ".join(str(state[2]) for state in glass[0]),
            "most": lambda: str(most(web)),
            "side": lambda: "none" if side is None else " ".join(map(str, side)),
            "bounds": lambda: " ".join(map(str, bounds(web))),
        }[sort]()

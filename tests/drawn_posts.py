"""Drawn traffic: posts of a web and the letters among them, kept beside a plain account of each."""
from moststream.posts import Post
from moststream.rows import sealed
from moststream.streams import most
from tests.drawn import drawn_web, part_of
from tests.drawn_parcels import drawn_parcel, spoiled_row
from tests.plain_posts import PlainPost
from tests.plain_rows import plain_read

WORDS = (("yes",), ("no", 0), ("rise", 2), ("push", 1, 1), ("pour", 1), ("push", 1, 3), ("rise", 999), ("no", 5))
ODD = (None, True, False, -1, 0, 1, 2, 3, 2 ** 32, 2 ** 32 - 1, "letter", "rise", (), ((),), ((0, ("yes",)),),
       ((0, ("rise", 1)),), ((1, ("rise", 5)),), (("rise", 1),), ((True, ("rise", 1)),), ((-1, ("rise", 1)),),
       ((0, ("rise", 1000)),), ((0, ("pour", 0)),), ((0, ("rise", 1), 0),), ((2 ** 32, ("rise", 1)),),
       ((2 ** 32 - 1, ("rise", 1)),), ((2, ("no", 1)), (1, ("rise", 3)), (0, ("rise", 2))))


def drawn_lively_web(draw):
    """A web in which the spring, if it has neighbours at all, most often pours something."""
    webs = [drawn_web(draw, many=draw.among(2, 6), most_units=draw.one_of((3, 9, 99)),
                      shape=draw.one_of(("some", "all", "all", "row", "tree"))) for _ in range(3)]
    return max(webs, key=lambda web: (bool(most(web)), len(web.ties) < 12))


class Traffic:
    """Posts and plain posts of one web, and a bag of rows."""

    def __init__(self, draw, web=None):
        self.web = web or drawn_lively_web(draw)
        self.posts = [Post(self.web, number) for number in range(self.web.many)]
        self.plain = [PlainPost(self.web, number) for number in range(self.web.many)]
        self.bag = []
        self.answers = {"new": 0, "old": 0, "none": 0}

    def ways(self):
        return [(one, other) for one in range(self.web.many) for other in self.plain[one].near]

    def hear(self, number, row):
        """The pair of what the post answers and what it should."""
        due, self.plain[number] = self.plain[number].hear(row)
        answer = self.posts[number].deed(("hear", row))
        self.answers[answer] += 1
        return answer, due


def spoiled_letter(draw, row):
    """A row that is sealed of a letter with a part otherwise, or spoiled itself."""
    letter, wrong = plain_read(row[:-4])
    if wrong is not None or draw.below(3) == 0:
        return spoiled_row(draw, row)
    at = draw.below(5)
    items = letter[4] if type(letter) is tuple and len(letter) == 5 and type(letter[4]) is tuple else ()
    if draw.below(2) or not items:
        return sealed(part_of(letter, at, draw.one_of(ODD)))
    k = draw.below(len(items))
    others = (items[:k] + items[k + 1:], items[k:], items[::-1], items + items, items[:k] + ((items[k][0], None),),
              part_of(items, k, (k + draw.below(30), draw.one_of(WORDS))), part_of(items, k, drawn_parcel(draw, 2)),
              items * 21)
    return sealed((*letter[:4], draw.one_of(others)))

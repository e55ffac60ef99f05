"""[8.1]: posts, their letters and their pasts, held against a plain account of the point."""
import unittest

from moststream.errors import NoDeed, NoHouse, NoPast
from moststream.posts import Post, post_of
from moststream.rows import sealed, unsealed
from moststream.states import begun, started
from moststream.webs import Web
from tests.drawn import Draw, no_houses, odd_things, part_of
from tests.drawn_posts import Traffic, spoiled_letter
from tests.plain_posts import PlainPost

WEB = Web(3, ((0, 1, 3, 0), (1, 2, 2, 0)), 0, 2)
BAR = Web(4, ((0, 1, 3, 1), (0, 2, 2, 2), (1, 2, 1, 1), (1, 3, 2, 1), (2, 3, 4, 0)), 0, 3)


def started_post(web=WEB):
    post = Post(web, web.spring)
    post.deed(("start",))
    return post


def letter_of(*parts):
    return sealed(("letter", *parts))


def rises(numbers):
    return tuple((number, ("rise", 1)) for number in numbers)


class Begins(unittest.TestCase):
    def test_as_the_house_begins(self):
        for web in (WEB, BAR):
            for number in range(web.many):
                post = Post(web, number)
                many = len(begun(web, number)[3])
                self.assertEqual(post.state(), begun(web, number))
                self.assertEqual(post.past(), (begun(web, number), ((0, ()),) * many, ((0, ()),) * many))

    def test_no_house(self):
        for thing in no_houses(3):
            if not (type(thing) is int and 0 <= thing < 3):
                self.assertRaises(NoHouse, Post, WEB, thing)
                self.assertRaises(NoHouse, post_of, WEB, thing, Post(WEB, 1).past())

    def test_copies_go_on_apart(self):
        post = Post(BAR, 0)
        other = post.copy()
        self.assertIs(type(other), Post)
        first = post.past()
        other.deed(("start",))
        self.assertEqual(post.past(), first)
        self.assertNotEqual(other.past(), first)
        third = other.copy()
        self.assertEqual(third.past(), other.past())
        self.assertEqual(third.deed(("hear", letter_of(1, 0, 1, ()))), "new")
        self.assertEqual(other.past(), started_post(BAR).past())
        self.assertEqual(third.deed(("hear", letter_of(1, 0, 1, rises((0, 2))))), "new")
        fourth = third.copy()
        self.assertEqual(fourth.deed(("hear", letter_of(1, 0, 1, rises((1,))))), "new")
        self.assertEqual([ins[0] for ins in (third.past()[2], fourth.past()[2])],
                         [(1, ((2, ("rise", 1)),)), (3, ())])


class Starts(unittest.TestCase):
    def test_what_it_sends_is_put_into_its_links(self):
        post = Post(BAR, 0)
        self.assertIsNone(post.deed(("start",)))
        state, out = started(BAR, 0, begun(BAR, 0))
        self.assertEqual(out, ((1, ("pour", 3)), (2, ("pour", 2))))
        self.assertEqual(post.past(), (state, ((0, (("pour", 3),)), (0, (("pour", 2),))), ((0, ()), (0, ()))))
        self.assertEqual(unsealed(post.letter(1)), (("letter", 0, 1, 0, ((0, ("pour", 3)),)),))

    def test_not_by_others_and_not_twice(self):
        for number in (1, 2, 3):
            post = Post(BAR, number)
            past = post.past()
            self.assertRaises(NoDeed, post.deed, ("start",))
            self.assertEqual(post.past(), past)
        post = started_post()
        past = post.past()
        self.assertRaises(NoDeed, post.deed, ("start",))
        self.assertEqual(post.past(), past)

    def test_no_deeds(self):
        row = started_post().letter(1)
        for thing in [("start", 0), ["start"], "start", ("hear",), ("hear", row, row), ["hear", row], ("heard", row),
                      ("letter", row), (None, row), (True,), (("start",),), {"start": 1}, ("rise", 1), (b"start",),
                      (b"hear", row), (("hear",), row), ("Start",), ("keep",), row, *odd_things()]:
            with self.subTest(repr(thing)[:60]):
                for number in (0, 1):
                    post = Post(WEB, number)
                    past = post.past()
                    self.assertRaises(NoDeed, post.deed, thing)
                    self.assertEqual(post.past(), past)


class Letters(unittest.TestCase):
    def test_of_none(self):
        self.assertEqual(unsealed(Post(WEB, 1).letter(2)), (("letter", 1, 2, 0, ()),))
        self.assertEqual(Post(WEB, 1).letter(0), sealed(("letter", 1, 0, 0, ())))

    def test_how_many_words_it_took_and_the_first_that_wait(self):
        post = Post(WEB, 1)
        self.assertEqual(post.deed(("hear", started_post().letter(1))), "new")
        words = ((0, ("rise", 1)), (1, ("push", 2, 1)))
        self.assertEqual(unsealed(post.letter(0)), (("letter", 1, 0, 1, ((0, ("rise", 1)),)),))
        self.assertEqual(unsealed(post.letter(2)), (("letter", 1, 2, 0, words),))
        self.assertEqual(post.deed(("hear", letter_of(2, 1, 1, ()))), "new")
        self.assertEqual(unsealed(post.letter(2)), (("letter", 1, 2, 0, words[1:]),))
        self.assertEqual(post.letter(2), post.letter(2))

    def test_at_most_twenty_items(self):
        for many in (0, 1, 19, 20, 21, 45):
            past = Post(WEB, 1).past()
            words = tuple(("rise", 1 + number) for number in range(many))
            post = post_of(WEB, 1, (past[0], ((7, words), (0, ())), past[2]))
            items = tuple((7 + at, word) for at, word in enumerate(words[:20]))
            self.assertEqual(unsealed(post.letter(0)), (("letter", 1, 0, 0, items),))
            self.assertEqual(unsealed(post.letter(2)), (("letter", 1, 2, 0, ()),))

    def test_no_house(self):
        post = Post(BAR, 3)
        for thing in [0, 3, *no_houses(4)]:
            if not (type(thing) is int and thing in (1, 2)):
                with self.subTest(repr(thing)[:60]):
                    self.assertRaises(NoHouse, post.letter, thing)


class Hears(unittest.TestCase):
    def none(self, post, thing):
        past = post.past()
        self.assertEqual(post.deed(("hear", thing)), "none")
        self.assertEqual(post.past(), past)

    def test_any_object_may_be_heard(self):
        row = started_post().letter(1)
        for thing in [list(row), row[:-1], row + (0,), (row,), "letter", ("letter", 0, 1, 0, ()), *odd_things()]:
            for post in (Post(WEB, 0), Post(WEB, 1), started_post()):
                with self.subTest(repr(thing)[:60]):
                    self.none(post, thing)

    def test_new_and_old(self):
        post = Post(WEB, 1)
        row = started_post().letter(1)
        self.assertEqual(post.deed(("hear", letter_of(0, 1, 0, ()))), "old")
        self.assertEqual(post.past(), Post(WEB, 1).past())
        self.assertEqual(post.deed(("hear", row)), "new")
        past = post.past()
        self.assertEqual(past[0], ("awake", 1, 1, (-3, 2), (3, 0), (0, 2)))
        self.assertEqual(past[2], ((1, ()), (0, ())))
        self.assertEqual(post.deed(("hear", row)), "old")
        self.assertEqual(post.deed(("hear", letter_of(0, 1, 0, ((0, ("rise", 9)),)))), "old")
        self.assertEqual(post.past(), past)
        self.assertEqual(post.deed(("hear", letter_of(0, 1, 1, ()))), "new")
        self.assertEqual(post.past()[1][0], (1, ()))
        self.assertEqual(post.deed(("hear", letter_of(0, 1, 0, ()))), "old")

    def test_what_is_held_is_new(self):
        post = Post(WEB, 2)
        self.assertEqual(post.deed(("hear", letter_of(1, 2, 0, rises((3,))))), "new")
        self.assertEqual(post.past()[2], ((0, ((3, ("rise", 1)),)),))
        self.assertEqual(post.deed(("hear", letter_of(1, 2, 0, rises((3,))))), "old")
        self.assertEqual(post.deed(("hear", letter_of(1, 2, 0, rises((1000, 5000, 2 ** 32 - 1))))), "old")
        self.assertEqual(post.deed(("hear", letter_of(1, 2, 0, rises((2, 1))))), "new")
        self.assertEqual(post.deed(("hear", letter_of(1, 2, 0, rises((0,))))), "new")
        self.assertEqual(post.past()[2], ((4, ()),))

    def test_letters_for_others_and_of_others(self):
        good = rises((0,))
        self.assertEqual(Post(BAR, 1).deed(("hear", letter_of(2, 1, 0, good))), "new")
        for sender in (1, 4, -1, True, False, None, "2", (2,), 10 ** 19):
            self.none(Post(BAR, 1), letter_of(sender, 1, 0, good))
        self.none(Post(BAR, 3), letter_of(0, 3, 0, good))
        for to in (0, 2, 3, 4, -1, True, None, "1", (1,)):
            self.none(Post(BAR, 1), letter_of(2, to, 0, good))
        self.none(Post(BAR, 0), letter_of(1, False, 0, good))
        self.none(Post(WEB, 1), letter_of(False, 1, 0, good))

    def test_taken_no_more_than_it_put(self):
        post = Post(WEB, 1)
        post.deed(("hear", started_post().letter(1)))
        for taken in (3, 4, 10 ** 19, -1, True, False, None, "1", (1,)):
            self.none(post, letter_of(2, 1, taken, ()))
        for taken, answer in ((0, "old"), (1, "new"), (2, "new"), (1, "old"), (2, "old")):
            self.assertEqual(post.deed(("hear", letter_of(2, 1, taken, ()))), answer)
        self.none(post, letter_of(2, 1, 3, ()))
        self.assertEqual(post.past()[1], ((0, (("rise", 1),)), (2, ())))

    def test_items(self):
        self.assertEqual(Post(WEB, 1).deed(("hear", letter_of(2, 1, 0, rises(range(20))))), "new")
        self.none(Post(WEB, 1), letter_of(2, 1, 0, rises(range(21))))
        self.none(Post(WEB, 1), letter_of(2, 1, 0, rises((0,) * 21)))
        self.assertEqual(Post(WEB, 1).deed(("hear", letter_of(2, 1, 0, rises((0, 2 ** 32 - 1))))), "new")
        for items in (None, 0, "rise", ("rise", 1), (0, ("rise", 1)), ((0,),), ((0, ("rise", 1), 0),),
                      ((0, ("rise",)),), ((0, ("rise", 1000)),), ((0, ("rise", -1)),), ((0, ("rise", True)),),
                      ((0, ("rises", 1)),), ((0, ()),), ((0, None),), ((0, ("pour", 0)),), ((0, ("pour", 10 ** 9)),),
                      ((0, ("yes", 1)),)):
            self.none(Post(WEB, 1), letter_of(2, 1, 0, items))
            if type(items) is tuple:
                self.none(Post(WEB, 1), letter_of(2, 1, 0, items + rises((0,))))
        for number in (2 ** 32, 10 ** 19, -1, True, False, None, "0", (0,)):
            self.none(Post(WEB, 1), letter_of(2, 1, 0, ((number, ("rise", 1)),)))
            self.none(Post(WEB, 1), letter_of(2, 1, 0, ((0, ("rise", 1)), (number, ("rise", 1)))))

    def test_rows_of_what_is_no_letter(self):
        for parcel in (None, 5, "letter", (), ("letter",), ("letter", 2, 1, 0), ("letter", 2, 1, 0, (), ()),
                       ("latter", 2, 1, 0, ()), (("letter",), 2, 1, 0, ()), (True, 2, 1, 0, ()),
                       (("letter", 2, 1, 0, ()),)):
            self.none(Post(WEB, 1), sealed(parcel))

    def test_a_word_that_is_none_then(self):
        for items in (((0, ("yes",)),), ((0, ("no", 3)),), ((0, ("pour", 4)),), ((0, ("push", 4, 1)),),
                      ((0, ("pour", 3)), (1, ("pour", 1))), ((0, ("rise", 4)), (1, ("yes",))),
                      ((1, ("yes",)), (0, ("rise", 4)))):
            self.none(Post(WEB, 1), letter_of(0, 1, 0, items))
        self.none(Post(WEB, 0), letter_of(1, 0, 0, rises((0,))))
        self.assertEqual(Post(WEB, 0).deed(("hear", letter_of(1, 0, 0, rises((1,))))), "new")

    def test_a_held_word_that_is_none_when_it_is_taken(self):
        post = Post(WEB, 1)
        self.assertEqual(post.deed(("hear", letter_of(0, 1, 0, ((1, ("yes",)),)))), "new")
        self.none(post, letter_of(0, 1, 0, ((0, ("rise", 4)),)))
        self.assertEqual(post.deed(("hear", letter_of(0, 1, 0, rises((2,))))), "new")
        self.none(post, letter_of(0, 1, 0, ((0, ("pour", 3)),)))

    def test_what_is_none_is_not_known_to_be_taken_either(self):
        post = Post(WEB, 1)
        post.deed(("hear", started_post().letter(1)))
        self.none(post, letter_of(2, 1, 2, ((0, ("yes",)), (1, ("yes",)))))
        self.assertEqual(post.past()[1][1][0], 0)

    def test_what_is_passed_stays(self):
        row = [1, 2]
        self.none(Post(WEB, 1), row)
        self.assertEqual(row, [1, 2])


class Pasts(unittest.TestCase):
    def setUp(self):
        self.post = Post(WEB, 1)
        self.post.deed(("hear", started_post().letter(1)))
        self.post.deed(("hear", letter_of(2, 1, 1, rises((1, 3)))))
        self.good = self.post.past()

    def test_goes_on_as_the_post_that_had_it(self):
        other = post_of(WEB, 1, self.good)
        self.assertIs(type(other), Post)
        self.assertEqual((other.past(), other.state()), (self.good, self.post.state()))
        for row in (letter_of(2, 1, 2, ((0, ("yes",)), (2, ("rise", 2)))), letter_of(2, 1, 1, ()),
                    letter_of(0, 1, 2, ()), letter_of(2, 1, 2, ((4, ("rise", 5)),))):
            self.assertEqual(other.deed(("hear", row)), self.post.deed(("hear", row)))
            self.assertEqual(other.past(), self.post.past())
            self.assertEqual([other.letter(to) for to in (0, 2)], [self.post.letter(to) for to in (0, 2)])

    def test_each_past_is_told_again(self):
        state, outs, ins = self.good
        for past in (self.good, (state, ((2 ** 32 - 1, ()), (5, (("yes",),) * 30)), ins),
                     (state, outs, ((2 ** 32 - 1, ()), (4, tuple((5 + at, ("rise", at)) for at in range(990))))),
                     (("asleep", 999, -10 ** 19, (-3, 2), (0, 999), (0, 2)), outs, ins)):
            self.assertEqual(post_of(WEB, 1, past).past(), past)

    def test_no_past(self):
        state, outs, ins = self.good
        for thing in [(), self.good[:2], (*self.good, ()), list(self.good), (state, list(outs), ins),
                      (state, outs, list(ins)), (list(state), outs, ins), (state, outs[:1], ins),
                      (state, outs, ins[:1]), (state, (*outs, outs[0]), ins), (state, outs, (*ins, ins[0])),
                      (state, ins, outs), (outs, state, ins),
                      (part_of(state, 0, "Awake"), outs, ins), (part_of(state, 1, 1000), outs, ins),
                      (part_of(state, 2, True), outs, ins), (part_of(state, 3, (3,)), outs, ins),
                      (begun(WEB, 0), outs, ins), *odd_things()]:
            with self.subTest(repr(thing)[:60]):
                self.assertRaises(NoPast, post_of, WEB, 1, thing)
                self.assertRaises(NoPast, post_of, WEB, 1, (thing, outs, ins))
                if thing != ():
                    self.assertRaises(NoPast, post_of, WEB, 1, (state, thing, ins))
                    self.assertRaises(NoPast, post_of, WEB, 1, (state, outs, thing))
        self.assertRaises(NoPast, post_of, WEB, 2, self.good)

    def test_of_links(self):
        state, outs, ins = self.good
        for number in (2 ** 32, -1, True, None, "0", 10 ** 19, (0,)):
            self.assertRaises(NoPast, post_of, WEB, 1, (state, (outs[0], (number, ())), ins))
            self.assertRaises(NoPast, post_of, WEB, 1, (state, outs, ((number, ()), ins[1])))
        for held in (((4, ("yes",)), (4, ("yes",))), ((3, ("yes",)),), ((1003, ("yes",)),), [(4, ("yes",))], ((4,),),
                     ((True, ("yes",)),)):
            self.assertRaises(NoPast, post_of, WEB, 1, (state, outs, (ins[0], (3, held))))
        self.assertEqual(post_of(WEB, 1, (state, outs, (ins[0], (3, ((1002, ("yes",)),))))).past()[2][1][0], 3)
        for word in (("yes", 1), (), ("a",), None, "yes", ("rise", 1000), ("rise", True), ["yes"], (1,), ("pour", 0)):
            self.assertRaises(NoPast, post_of, WEB, 1, (state, ((0, (("yes",), word)), outs[1]), ins))
            self.assertRaises(NoPast, post_of, WEB, 1, (state, outs, (ins[0], (3, ((4, ("yes",)), (5, word))))))

    def test_a_house_ahead_of_a_past(self):
        self.assertRaises(NoHouse, post_of, WEB, 3, None)
        self.assertRaises(NoHouse, post_of, WEB, True, self.good)


class Drawn(unittest.TestCase):
    def test_letters_in_any_order(self):
        """Late, lost, twice, with a part otherwise; pasts that go on as the posts that had them."""
        answers = {"new": 0, "old": 0, "none": 0}
        for seed in range(50):
            draw = Draw(seed)
            traffic = Traffic(draw)
            for _ in range(300):
                self.lead(draw, traffic)
            for answer, many in traffic.answers.items():
                answers[answer] += many
        self.assertGreater(min(answers.values()), 300, answers)

    def lead(self, draw, traffic):
        ways = traffic.ways()
        deed = draw.below(12)
        number = draw.below(traffic.web.many)
        if deed < 5 and ways:
            one, other = draw.one_of(ways)
            row = traffic.posts[one].letter(other)
            self.assertEqual(row, sealed(traffic.plain[one].letter(other)))
            traffic.bag.append((other, row))
        elif deed < 9 and traffic.bag:
            at = len(traffic.bag) - 1 - draw.below(draw.one_of((len(traffic.bag), min(len(traffic.bag), 4))))
            number, row = traffic.bag[at] if draw.below(3) else traffic.bag.pop(at)
            self.assertEqual(*traffic.hear(number, row))
        elif deed == 9 and traffic.bag:
            number, row = draw.one_of(traffic.bag)
            self.assertEqual(*traffic.hear(number, spoiled_letter(draw, row)))
        elif deed == 10:
            number = draw.one_of((number, traffic.web.spring))
            self.start(traffic.posts[number], traffic.plain[number])
        else:
            post = traffic.posts[number]
            traffic.posts[number] = draw.one_of((post.copy, lambda: post_of(traffic.web, number, post.past())))()
        self.assertEqual(traffic.posts[number].past(), traffic.plain[number].past())
        self.assertEqual(traffic.posts[number].state(), traffic.plain[number].state())

    def start(self, post, plain):
        if plain.can_start():
            plain.start()
            self.assertIsNone(post.deed(("start",)))
        else:
            self.assertRaises(NoDeed, post.deed, ("start",))

    def test_all_is_taken_when_letters_go_to_and_fro(self):
        for seed in range(20):
            traffic = Traffic(Draw(seed))
            traffic.posts[traffic.web.spring].deed(("start",))
            traffic.plain[traffic.web.spring].start()
            busy = True
            while busy:
                busy = False
                for one, other in traffic.ways():
                    answer, due = traffic.hear(other, traffic.posts[one].letter(other))
                    self.assertEqual(answer, due)
                    busy = busy or answer == "new"
            for post, plain in zip(traffic.posts, traffic.plain):
                self.assertEqual(post.past(), plain.past())
                self.assertFalse([words for _, words in post.past()[1] if words])

    def test_the_plain_account_is_another_one(self):
        self.assertEqual(PlainPost(BAR, 2).past(), Post(BAR, 2).past())


if __name__ == "__main__":
    unittest.main()

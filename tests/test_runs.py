"""Runs of words from house to house to the end: what [0.1] and [2] promise of them all."""
import unittest

from moststream.states import begun, heard, is_state, is_word, started
from moststream.streams import is_stream, most, side_of, split, worth
from moststream.webs import Web, lets, neighbours
from tests.drawn import SHAPES, Draw, drawn_web
from tests.plain import least_side

SORTS = ("pour", "push", "yes", "no", "rise")


class Run:
    """All houses of a web, and the words on their way, heard in a drawn order."""

    def __init__(self, web, draw):
        self.web, self.draw = web, draw
        self.states = [begun(web, house) for house in range(web.many)]
        self.ways = {}
        self.counts = dict.fromkeys(SORTS, 0)
        self.states[web.spring], out = started(web, web.spring, self.states[web.spring])
        self.send(web.spring, out)

    def send(self, house, out):
        for other, word in out:
            assert other in neighbours(self.web, house) and is_word(word)
            self.ways.setdefault((house, other), []).append(word)

    def step(self):
        """Hears a word; tells whether there was one."""
        full = sorted(way for way, words in self.ways.items() if words)
        if not full:
            return False
        sender, house = self.draw.one_of(full)
        word = self.ways[sender, house].pop(0)
        self.counts[word[0]] += 1
        self.states[house], out = heard(self.web, house, self.states[house], sender, word)
        self.send(house, out)
        return True

    def heights(self):
        return [state[1] for state in self.states]

    def stream(self):
        return tuple(self.states[a][3][neighbours(self.web, a).index(b)] for a, b, _, _ in self.web.ties)


class Runs(unittest.TestCase):
    def holds_amid(self, run):
        web, heights = run.web, run.heights()
        self.assertLessEqual(max(heights), 2 * web.many - 1)
        self.assertEqual((heights[web.spring], heights[web.mouth]), (web.many, 0))
        for house, state in enumerate(run.states):
            self.assertIs(is_state(web, house, state), True)
            self.assertEqual(state[2] + sum(state[3]), 0)
            for other, units, belief in zip(neighbours(web, house), state[3], state[4]):
                self.assertLessEqual(belief, heights[other])
                if units < lets(web, house, other):
                    self.assertLessEqual(heights[house], heights[other] + 1)

    def holds_at_the_end(self, run):
        web, stream = run.web, run.stream()
        self.assertIs(is_stream(web, stream), True)
        self.assertEqual(worth(web, stream), most(web))
        self.assertIsNotNone(side_of(web, stream))
        self.assertIsNotNone(split(web, stream))
        for house, state in enumerate(run.states):
            self.assertEqual(set(state[5]) | {0}, {0})
            if house not in (web.spring, web.mouth):
                self.assertEqual(state[2], 0)
        self.assertEqual(run.states[web.mouth][2], most(web))
        self.assertEqual(run.states[web.spring][2], -most(web))
        for a, b, _, _ in web.ties:
            self.assertEqual(run.states[a][3][neighbours(web, a).index(b)],
                             -run.states[b][3][neighbours(web, b).index(a)])

    def keeps_to_numbers(self, run):
        n, t = run.web.many, len(run.web.ties)
        counts = run.counts
        self.assertLessEqual(counts["pour"], len(neighbours(run.web, run.web.spring)))
        self.assertLessEqual(counts["yes"], 2 * t * n + (2 * n - 1) * (n - 2 + 2 * n * t + 2 * t * (2 * n - 1)))
        self.assertLessEqual(max(counts["no"], counts["rise"]), (2 * n - 1) * 2 * t)
        self.assertEqual(counts["push"], counts["yes"] + counts["no"])

    def test_drawn_webs_in_drawn_orders(self):
        counts = dict.fromkeys(SORTS, 0)
        for seed in range(120):
            draw = Draw(seed)
            web = drawn_web(draw, many=2 + seed % 9, most_units=(2, 9, 999999)[seed % 3],
                            shape=("some", "all", *SHAPES)[seed % 9])
            run = Run(web, draw)
            self.holds_amid(run)
            while run.step():
                if web.many < 7:
                    self.holds_amid(run)
            self.holds_amid(run)
            self.holds_at_the_end(run)
            self.keeps_to_numbers(run)
            counts = {sort: counts[sort] + run.counts[sort] for sort in SORTS}
        self.assertTrue(min(counts.values()) > 100, counts)

    def test_the_same_end_worth_in_every_order(self):
        web = drawn_web(Draw(11), many=6, most_units=9, shape="all")
        due = least_side(web)
        for seed in range(30):
            run = Run(web, Draw(seed))
            while run.step():
                pass
            self.assertEqual(worth(web, run.stream()), due)
            self.holds_at_the_end(run)

    def test_counts_of_the_example(self):
        web = Web(3, ((0, 1, 3, 0), (1, 2, 2, 0)), 0, 2)
        run = Run(web, Draw(0))
        while run.step():
            pass
        self.assertEqual(run.stream(), (2, 2))
        self.assertEqual([state[2] for state in run.states], [-2, 0, 2])
        self.assertEqual(tuple(run.counts.values()), (1, 2, 2, 0, 4))

    def test_the_largest_web(self):
        run = Run(drawn_web(Draw(1), many=10, most_units=999999, shape="all"), Draw(2))
        while run.step():
            pass
        self.holds_amid(run)
        self.holds_at_the_end(run)
        self.keeps_to_numbers(run)


if __name__ == "__main__":
    unittest.main()

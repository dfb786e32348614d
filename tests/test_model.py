"""Lists of calls, drawn with set seeds, against two plain models.

The first works out each round and each slice as the document words it, over sets. The second never lets go of
anything: what the program sees must be the same, what is let go must be what can't be come to there, and in the end
just that must be gone.
"""

import random
import unittest

from tests.helper import GROWN
from tests.helper import cell, chain, clear, counts, found, get, held, keyed, last_word, move, num, put, run
from tests.helper import same, shape, slice_of, weak, words, young

NOTHING = ("nothing",)
NAMES = ["", "cell", "num", "move", "clear", "get", "put", "weak", "held", "keyed",
         "found", "last", "words", "young_call", "slice", "counts", "shape", "same"]
VARIABLES_AT = {"cell": [1], "num": [1], "clear": [1], "put": [1, 3], "keyed": [1, 2, 3], "found": [1, 2, 3],
                "last": [1], "words": [], "young_call": [], "slice": [], "counts": [], "shape": [1]}


def cells_of(held_ones):
    return {h[1] for h in held_ones if h[0] == "cell"}


class Model:
    """Cells are numbered. What is held: NOTHING, ("number", z) or ("cell", n)."""

    def __init__(self):
        self.variables = {v: NOTHING for v in range(16)}
        self.kinds, self.fields, self.ages, self.remembered = {}, {}, {}, set()
        self.colours, self.last_words, self.told = {}, {}, []
        self.state, self.past = "rests", 0
        self.made = self.rounds = 0

    def young(self):
        return {n for n, age in self.ages.items() if age < 2}

    def old(self):
        return {n for n, age in self.ages.items() if age == 2}

    def of_colour(self, colour):
        return {n for n in self.old() if self.colours[n] == colour}

    def of_kind(self, kind):
        return {n for n, its in self.kinds.items() if its == kind}

    def held_in(self, cells):
        return {inner for n in cells for inner in cells_of(self.fields[n])}

    def values_of(self, keyed, with_keys):
        """Values of these keyed cells, as far as their keys are among those."""
        return {inner for n in keyed if cells_of(self.fields[n][:1]) & with_keys
                for inner in cells_of(self.fields[n][1:])}

    # A round of the young.

    def reached(self, kept):
        """Kept, and one step more by each of the document's four ways."""
        young = self.young()
        reached = set(kept) | cells_of(self.variables.values())
        for n, kind in self.kinds.items():
            if kind == "plain" and (n in self.remembered or n in kept):
                reached |= cells_of(self.fields[n])
            if kind == "keyed" and (n not in young or n in kept):
                key, value = self.fields[n]
                if not (key[0] == "cell" and key[1] in young and key[1] not in kept):
                    reached |= cells_of([value])
        return reached & young

    def let_go(self, gone):
        for n in sorted(gone):
            if n in self.last_words:
                self.told.append(self.last_words[n])
            del self.kinds[n], self.fields[n], self.ages[n]
            self.remembered.discard(n)

    def empty(self, cells, gone):
        for n in cells:
            if self.kinds[n] != "plain" and cells_of(self.fields[n][:1]) & gone:
                self.fields[n] = [NOTHING] * len(self.fields[n])

    def round(self):
        self.rounds += 1
        kept = set()
        while self.reached(kept) != kept:
            kept = self.reached(kept)
        gone = self.young() - kept
        self.let_go(gone)
        self.empty(self.kinds, gone)
        for n in kept:
            self.ages[n] += 1
            if self.ages[n] == 2:
                swept = "white" if n <= self.past else "black"
                self.colours[n] = {"rests": "white", "marks": "grey", "sweeps": swept}[self.state]
        self.remembered = {n for n in self.of_kind("plain") & self.old() if self.held_in([n]) & self.young()}

    # A round of the old.

    def looked_at(self, keyed, keys):
        found_ones = cells_of(self.variables.values()) | self.held_in(self.young() & self.of_kind("plain"))
        return found_ones | self.values_of(keyed & self.of_kind("keyed"), keys)

    def grey_from(self, cells):
        white = cells & self.of_colour("white")
        self.colours.update((n, "grey") for n in white)
        return white

    def step(self):
        """One step of the document's five: how many units it is, or None where the slice ends."""
        grey, ahead = self.of_colour("grey"), {n for n in self.old() if n > self.past}
        if self.state == "rests":
            self.state = "marks"
            self.grey_from(self.looked_at(self.young(), self.young()))
        elif self.state == "marks" and grey:
            self.colours[min(grey)] = "black"
            if self.kinds[min(grey)] == "plain":
                self.grey_from(self.held_in([min(grey)]))
            return 1
        elif self.state == "marks":
            here = self.young() | self.of_colour("black")
            if not self.grey_from(self.looked_at(here, here)):
                self.empty(here, self.of_colour("white"))
                self.state, self.past = "sweeps", 0
        elif ahead:
            self.past = min(ahead)
            if self.colours[self.past] == "white":
                self.let_go({self.past})
            else:
                self.colours[self.past] = "white"
            return 1
        else:
            self.state = "rests"
            return None
        return 0

    # The calls.

    def make(self, v, kind, fields):
        if len(self.kinds) == 150:
            return [-6]
        rounds = self.rounds
        if len(self.young()) >= 20:
            self.round()
            if len(self.young()) >= 20:
                self.round()
        self.put_new(v, kind, fields)
        return [self.rounds - rounds]

    def put_new(self, v, kind, fields):
        self.made += 1
        self.kinds[self.made], self.fields[self.made], self.ages[self.made] = kind, fields, 0
        self.variables[v] = ("cell", self.made)

    def kind_in(self, u):
        what = self.variables[u]
        return self.kinds[what[1]] if what[0] == "cell" else None

    def plain_refusal(self, u, i):
        if self.kind_in(u) != "plain":
            return [-3]
        return None if i in range(len(self.fields[self.variables[u][1]])) else [-4]

    def answer(self, call):
        name = NAMES[call[0]]
        if any(call[p] not in range(16) for p in VARIABLES_AT.get(name, [1, 2])):
            return [-1]
        return getattr(self, name)(*call[1:])

    def cell(self, v, count, *row):
        if count % 2 or count > 12:
            return [-1]
        fields = []
        for way, number in zip(row[::2], row[1::2]):
            if way == 0 and abs(number) <= 10 ** 9:
                fields.append(("number", number))
            elif way == 1 and number in range(16):
                fields.append(self.variables[number])
            else:
                return [-1]
        return self.make(v, "plain", fields)

    def num(self, v, z):
        if abs(z) > 10 ** 9:
            return [-1]
        self.variables[v] = ("number", z)
        return [0]

    def move(self, v, u):
        self.variables[v] = self.variables[u]
        return [0]

    def clear(self, v):
        self.variables[v] = NOTHING
        return [0]

    def get(self, v, u, i):
        refusal = self.plain_refusal(u, i)
        if refusal:
            return refusal
        what = self.variables[v] = self.fields[self.variables[u][1]][i]
        return {"number": [0, what[-1]], "cell": [1], "nothing": [2]}[what[0]]

    def put(self, u, i, v):
        refusal = self.plain_refusal(u, i)
        if refusal:
            return refusal
        n, what = self.variables[u][1], self.variables[v]
        self.fields[n][i] = what
        if n in self.old() and cells_of([what]) & self.young():
            self.remembered.add(n)
        if self.state == "marks" and n in self.of_colour("black"):
            self.grey_from(cells_of([what]))
        return [0]

    def weak(self, v, u):
        return self.make(v, "weak", [self.variables[u]]) if self.kind_in(u) else [-3]

    def held(self, v, u):
        if self.kind_in(u) != "weak":
            return [-3]
        self.variables[v] = self.fields[self.variables[u][1]][0]
        return [0] if self.variables[v] == NOTHING else [1]

    def keyed(self, v, k, x):
        return self.make(v, "keyed", [self.variables[k], self.variables[x]]) if self.kind_in(k) else [-3]

    def found(self, v, u, k):
        if self.kind_in(u) != "keyed" or not self.kind_in(k):
            return [-3]
        key, value = self.fields[self.variables[u][1]]
        has_it = key == self.variables[k]
        self.variables[v] = value if has_it else NOTHING
        return [int(has_it)]

    def last(self, u, z):
        if abs(z) > 10 ** 9:
            return [-1]
        if not self.kind_in(u):
            return [-3]
        self.last_words[self.variables[u][1]] = z
        return [0]

    def words(self):
        told, self.told = self.told, []
        return [len(told), *told]

    def young_call(self):
        cells, old = set(self.kinds), self.old()
        self.round()
        return [len(cells - set(self.kinds)), len(self.old() - old), len(self.young())]

    def slice(self, n):
        if n not in range(1, 1001):
            return [-1]
        cells, left, units = set(self.kinds), n, 0
        while left > 0 and units is not None:
            units = self.step()
            left -= units or 0
        return [n - left, self.state_told(), len(cells - set(self.kinds))]

    def state_told(self):
        return ["rests", "marks", "sweeps"].index(self.state)

    def counts(self):
        groups = [set(self.kinds), self.young(), self.old(), self.remembered]
        groups += [self.of_colour(colour) for colour in ("white", "grey", "black")]
        return [len(group) for group in groups] + [self.state_told()]

    def shape(self, u):
        seen, waiting = [], [self.variables[u]]
        while waiting:
            what = waiting.pop(0)
            if what[0] == "cell" and what[1] not in seen:
                seen.append(what[1])
                if self.kinds[what[1]] == "plain":
                    waiting += self.fields[what[1]]
        if len(seen) > 60:
            return [-7]

        def told(what):
            return {"number": lambda: [0, what[1]], "cell": lambda: [1, seen.index(what[1])],
                    "nothing": lambda: [2]}[what[0]]()

        answer = [len(seen), *told(self.variables[u])]
        for n in seen:
            if self.kinds[n] == "plain":
                answer += [0, len(self.fields[n])] + [number for what in self.fields[n] for number in told(what)]
            else:
                answer.append({"weak": 1, "keyed": 2}[self.kinds[n]])
        return answer

    def same(self, u, v):
        return [int(self.kind_in(u) is not None and self.variables[u] == self.variables[v])]


class Keeper(Model):
    """Lets go of nothing. What can be come to is asked of it, not worked out by rounds."""

    def make(self, v, kind, fields):
        self.put_new(v, kind, fields)
        return [0]

    def can_be_come_to(self):
        come_to, step = None, cells_of(self.variables.values())
        while step != come_to:
            come_to = step
            step = come_to | self.held_in(come_to & self.of_kind("plain"))
            step |= self.values_of(come_to & self.of_kind("keyed"), come_to)
        return come_to

    def forget_target(self, u):
        """The weak cell in u has lost its target: that must be one that can't be come to."""
        n = self.variables[u][1]
        lost = cells_of(self.fields[n])
        self.fields[n] = [NOTHING]
        return not lost & self.can_be_come_to()


def some_fields(draw):
    row = []
    for at in range(draw.choice([0, 1, 2, 2, 3, 6])):
        row += draw.choice([[0, draw.randint(-9, 9)], [1, draw.randint(0, 15)], [1, draw.randint(0, 15)]])
    if draw.random() < 0.03:
        row += draw.choice([[0], [2, 0], [1, 16], [0, 10 ** 9 + 1], [0, -10 ** 9 - 1], [0, 0] * 6])
    return row


class Drawn:
    """Draws calls about the first variables mostly."""

    def __init__(self, seed):
        self.draw = random.Random(seed)
        self.variables = self.draw.choice([3, 6, 10, 16])

    def var(self):
        draw = self.draw
        return draw.choice([-1, 16, 99]) if draw.random() < 0.01 else draw.randrange(self.variables)

    def index(self):
        return self.draw.choice([0, 0, 0, 1, 1, 2, 5, -1, 6])

    def link(self):
        v = self.draw.randrange(self.variables)
        return cell(v, 1, v, 1, self.draw.randrange(self.variables))

    def maker(self):
        var = self.var
        return self.draw.choice([self.link, lambda: cell(var(), *some_fields(self.draw)), lambda: weak(var(), var()),
                                 lambda: keyed(var(), var(), var())])()

    def other(self):
        draw, var, index = self.draw, self.var, self.index
        return draw.choice([
            lambda: num(var(), draw.choice([5, 10 ** 9, 10 ** 9 + 1])), lambda: move(var(), var()),
            lambda: clear(var()), lambda: get(var(), var(), index()), lambda: put(var(), index(), var()),
            lambda: put(var(), index(), var()), lambda: held(var(), var()), lambda: found(var(), var(), var()),
            lambda: last_word(var(), draw.choice([draw.randint(-99, 99), 10 ** 9 + 1, draw.randint(0, 9)])),
            lambda: same(var(), var()), lambda: shape(var())])()

    def worker(self):
        """Rounds of both sorts, and what tells of them."""
        draw = self.draw
        return draw.choice([young, words, counts, lambda: slice_of(draw.choice([1, 1, 1, 2, 2, 3, 5, 8, 30, 1000])),
                            lambda: slice_of(draw.choice([1, 1, 2, 3, 4, 0, 1001, -5]))])()

    def calls(self, count, makers, workers):
        """Of ten calls `makers` make a cell and `workers` work a round or tell of one."""
        draw = self.draw
        # Two rounds, or more than 60 cells in one shape, are seldom come to by chance.
        calls = chain(draw.choice([20, 20, 65]), self.var() % 16) if draw.random() < 0.2 else []
        while len(calls) < count:
            at = draw.random() * 10
            calls.append(self.maker() if at < makers else self.worker() if at < makers + workers else self.other())
        return calls


class AgainstTheWords(unittest.TestCase):
    def check(self, seeds, count):
        seen = set()
        for seed in seeds:
            drawn = Drawn(seed)
            calls = drawn.calls(count, drawn.draw.choice([2, 4, 6, 8]), drawn.draw.choice([0, 1, 2, 4]))
            model = Model()
            expected = [model.answer(call) for call in calls]
            self.assertEqual(run(*calls), expected, f"seed {seed}")
            seen |= {(call[0], answer[0]) for call, answer in zip(calls, expected)}
            seen |= {(14, "state", answer[1]) for call, answer in zip(calls, expected)
                     if call[0] == 14 and len(answer) > 1}
        return seen

    def test_lists_as_long_as_they_may_be(self):
        seen = self.check(range(900), 100)
        everything = {(1, -1), (1, 0), (1, 1), (1, 2), (2, -1), (2, 0), (3, -1), (3, 0), (4, -1), (4, 0),
                      (5, -1), (5, -3), (5, -4), (5, 0), (5, 1), (5, 2), (6, -1), (6, -3), (6, -4), (6, 0),
                      (7, -1), (7, -3), (7, 0), (7, 1), (7, 2), (8, -1), (8, -3), (8, 0), (8, 1),
                      (9, -1), (9, -3), (9, 0), (9, 1), (9, 2), (10, -1), (10, -3), (10, 0), (10, 1),
                      (11, -1), (11, -3), (11, 0), (12, 0), (12, 1), (12, 2), (13, 0), (13, 1), (13, 5),
                      (14, -1), (14, 0), (14, 1), (14, 5), (14, 30), (14, "state", 0), (14, "state", 1),
                      (14, "state", 2), (15, 20), (16, -7), (16, -1), (16, 0), (16, 1), (16, 5),
                      (17, -1), (17, 0), (17, 1)}
        self.assertEqual(everything - seen, set())

    def test_longer_lists(self):
        seen = self.check(range(1000, 1100), 600)
        self.assertEqual({(1, -6), (7, -6), (9, -6)} - seen, set())


class AsIfNothingWereEverLetGo(unittest.TestCase):
    def follow(self, keeper, call, answer):
        """One call on the model, whose answer must be the same but for what tells of rounds."""
        if call[0] in (12, 13, 14, 15):
            return True
        if call[0] == 8 and answer == [0]:
            if not keeper.forget_target(call[2]):
                return False
        expected = keeper.answer(call)
        # How many rounds there were is all that may differ where a cell is made.
        return (expected[0] < 0) == (answer[0] < 0) if call[0] in (1, 7, 9) else expected == answer

    def check_slices(self, calls, given):
        """No slice is longer than it's let be, nor shorter where it doesn't come to rest."""
        for call, answer in zip(calls, given):
            if call[0] == 14 and answer != [-1]:
                self.assertTrue(answer[0] <= call[1] if answer[1] == 0 else answer[0] == call[1])

    def test_lists_of_calls(self):
        # In the end all that is kept is old, what was under way comes to rest, and one whole round is worked.
        end = [*GROWN, slice_of(1000), slice_of(1000), words(), counts()]
        for seed in range(2000, 2700):
            drawn = Drawn(seed)
            calls = drawn.calls(94, drawn.draw.choice([2, 4, 6]), drawn.draw.choice([1, 2, 4])) + end
            given = run(*calls)
            keeper = Keeper()
            for at, call in enumerate(calls):
                self.assertTrue(self.follow(keeper, call, given[at]), f"seed {seed}, call {at}")
            self.check_slices(calls, given)
            stays = keeper.can_be_come_to()
            self.assertEqual(given[-1], [len(stays), 0, len(stays), 0, len(stays), 0, 0, 0], f"seed {seed}")
            told = [z for call, answer in zip(calls, given) if call[0] == 12 for z in answer[1:]]
            left = [z for n, z in keeper.last_words.items() if n not in stays]
            self.assertEqual(sorted(told), sorted(left), f"seed {seed}")


if __name__ == "__main__":
    unittest.main()

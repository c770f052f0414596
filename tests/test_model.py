"""All promises over long, mixed stories: the program against a second telling of the document's words.

The second telling is built another way: it lives through a node's life from top to bottom, and reads each frame
anew from its first bit whenever another one is heard.
"""

import random
import unittest

from helper import BEGIN, HIGHEST, LOOK, LOWEST, OUT, count, frame, hear, plain, remainder, send, split, stuff
from lowestwins.node import answers


class Wrong(Exception):
    """Something is wrong on the wire."""


def unstuffed(wire):
    """A frame's bits without the stuffed ones, and whether one is due behind them."""
    row, alike = "", ""
    for sign in wire:
        due = len(alike) == 5
        if due and sign == alike[-1]:
            raise Wrong
        alike = alike + sign if alike.endswith(sign) else sign
        if not due:
            row += sign
    return row, len(alike) == 5


def read(wire):
    """The frame that these bits are, whether its sum is right; or None as long as it isn't whole."""
    row, due = unstuffed(wire)
    if "1" in row[12:15]:
        raise Wrong
    if len(row) < 19:
        return None
    length = int(row[15:19], 2)
    if length > 8:
        raise Wrong
    if due or len(row) < 34 + 8 * length:
        return None
    name = int(row[1:12], 2)
    data = [int(row[19 + 8 * place:27 + 8 * place], 2) for place in range(length)]
    told = int(row[-15:], 2)
    return [name // 256, name % 256, length] + data, told == remainder([int(sign) for sign in row[:-15]])


class Model:
    def __init__(self):
        self.begin()

    def begin(self):
        self.want = self.got = None
        self.errors = [0, 0]
        self.life = self.live()
        self.state, self.puts = next(self.life)
        return [0]

    def live(self):
        ones = 0
        while True:
            while ones < 11:
                bit = yield 4, 1
                ones = ones + 1 if bit else 0
            while (yield 0, "start"):
                pass
            self.sending = self.want is not None
            try:
                yield from self.go_through(*(yield from self.go_within()))
                ones = 8
            except Wrong:
                yield from self.fail()
                ones = 0

    def go_within(self):
        wire = "0"
        while read(wire) is None:
            mine = int(self.want[len(wire)]) if self.sending else 1
            bit = yield 1, mine
            if self.sending and bit != mine:
                if mine == 0 or len(unstuffed(wire)[0]) >= 12:
                    raise Wrong
                self.sending = False
                self.answer = 4
            wire += str(bit)
        return read(wire)

    def go_through(self, got, is_right):
        for place in range(10):
            self.place = place
            bit = yield 2, 0 if place == 1 and is_right and not self.sending else 1
            fits = bit == 1 if place != 1 else bit == 0 or not self.sending
            if not fits or (place == 2 and not is_right and not self.sending):
                raise Wrong
        if self.sending:
            self.want = None
            self.answer = 2
        else:
            self.got = got
            self.answer = 1
        kind = 0 if self.sending else 1
        if self.errors[kind] > 0:
            self.errors[kind] -= 1

    def fail(self):
        self.answer = 3
        if not self.sending:
            self.errors[1] = min(127, self.errors[1] + 1)
        else:
            self.errors[0] += 8
            if self.errors[0] >= 256:
                self.errors[0] = 256
                self.answer = 5
                while True:
                    yield 5, 1
        for place in range(6):
            yield 3, 0

    def send(self, name, data):
        if not 0 <= name <= 2047 or len(data) > 8:
            return [-2]
        if self.want is not None:
            return [-1]
        self.want = "".join(map(str, frame(name, data)))
        return [0]

    def out(self):
        if self.puts == "start":
            return [1 if self.want is None else 0]
        return [self.puts]

    def hear(self, bit):
        if bit not in (0, 1):
            return [-2]
        self.answer = 0
        self.state, self.puts = self.life.send(bit)
        return [self.answer]

    def look(self):
        return [-1] if self.got is None else [len(self.got)] + self.got

    def count(self, what):
        return [(self.errors + [self.state])[what]] if 0 <= what <= 2 else [-2]


class Story:
    """Calls as they come up by chance, always the same for the same seed, and what the model answers to them."""

    def __init__(self, seed, noise, confirmed=0.9):
        self.chance = random.Random(seed)
        self.noise = noise
        self.confirmed = confirmed
        self.heard = {}
        self.model = Model()
        self.calls = list(BEGIN)
        self.expected = [[0]]
        self.coming = []

    def tell(self, call, answer):
        self.calls += call
        self.expected.append(answer)

    def some_frame(self):
        name = self.chance.choice((0, 1, 2047, self.chance.randrange(2048), self.chance.randrange(64)))
        byte = self.chance.choice((0, 255, None))
        length = self.chance.choice((0, 0, 1, 2, 8))
        return name, [self.chance.randrange(256) if byte is None else byte for place in range(length)]

    def others(self):
        """What the others put on the wire next: a frame at times, not always a right one."""
        if not self.coming and self.model.state == 0 and self.chance.random() < 0.5:
            name, data = self.some_frame()
            sort = self.chance.randrange(10)
            if sort == 0:
                self.coming = frame(name, data, wrong=1 << self.chance.randrange(15))
            elif sort == 1:
                self.coming = frame(name, data, length=self.chance.randrange(9, 16))
            elif sort == 2:
                self.coming = frame(name, data, zeros=self.chance.choice(("001", "010", "100", "111")))
            elif sort == 3:
                self.coming = stuff(plain(name, data))[:self.chance.randrange(40)] + [0] * 6
            else:
                self.coming = frame(name, data) + [1] * 10
        return self.coming.pop(0) if self.coming else 1

    def next_bit(self):
        own = self.model.out()[0]
        bit = min(own, self.others())
        if self.model.state == 2 and self.model.place == 1 and self.chance.random() < self.confirmed:
            bit = 0
        if self.chance.random() < self.noise:
            bit = self.chance.choice((1 - bit, 1 - bit, 1 - bit, 2, -1, LOWEST, HIGHEST))
        return bit

    def step(self):
        dice = self.chance.random()
        if dice < 0.04:
            name, data = self.some_frame()
            self.tell(send(name, data), self.model.send(name, data))
        elif dice < 0.05:
            name = self.chance.choice((-1, 2048, LOWEST, HIGHEST))
            self.tell(send(name), self.model.send(name, []))
        elif dice < 0.06:
            self.tell([1, 5, self.chance.choice((9, 4294967295)), 0], self.model.send(5, [0] * 9))
        elif dice < 0.10:
            what = self.chance.choice((-1, 0, 1, 2, 3))
            self.tell(count(what), self.model.count(what))
        elif dice < 0.14:
            self.tell(OUT, self.model.out())
        elif dice < 0.16:
            self.tell(LOOK, self.model.look())
        elif dice < (0.17 if self.model.state == 5 else 0.1602):
            self.tell(BEGIN, self.model.begin())
        else:
            bit = self.next_bit()
            state = self.model.state
            answer = self.model.hear(bit)
            self.tell(hear(bit), answer)
            self.heard[state, answer[0]] = self.heard.get((state, answer[0]), 0) + 1

    def ask_all(self):
        self.tell(OUT, self.model.out())
        self.tell(LOOK, self.model.look())
        for what in range(3):
            self.tell(count(what), self.model.count(what))


class AgainstTheModel(unittest.TestCase):
    def assert_same(self, story):
        given = split(answers(story.calls))
        # Told as a truth, since a difference of long lists takes unittest minutes to write out.
        self.assertTrue(given == story.expected, self.first_difference(story, given))

    def first_difference(self, story, given):
        for place, (one, other) in enumerate(zip(given, story.expected)):
            if one != other:
                return f"answer {place} is {one}, not {other}"
        return "not as many answers as calls"

    def test_stories(self):
        for seed in range(60):
            story = Story(seed, noise=(0, 0.001, 0.003, 0.02, 0.3)[seed % 5])
            while len(story.calls) < 5000:
                story.step()
                story.ask_all()
            self.assert_same(story)

    def test_long_stories(self):
        seen = {}
        for seed in range(100, 124):
            story = Story(seed, noise=(0, 0.001, 0.01, 0.02)[seed % 4], confirmed=(0.9, 0.9, 0.3, 0)[seed // 4 % 4])
            while len(story.expected) < 13900:
                story.step()
            self.assert_same(story)
            for step, times in story.heard.items():
                seen[step] = seen.get(step, 0) + times
        # The stories are worth nothing where all this doesn't come up in them often.
        for step in ((0, 0), (1, 0), (1, 3), (1, 4), (2, 0), (2, 1), (2, 2), (2, 3), (3, 0), (4, 0), (5, 0)):
            self.assertGreater(seen.get(step, 0), 100, step)
        for step in ((0, -2), (1, -2), (2, -2), (3, -2), (4, -2), (5, -2), (1, 5), (2, 5)):
            self.assertGreater(seen.get(step, 0), 3, step)


if __name__ == "__main__":
    unittest.main()

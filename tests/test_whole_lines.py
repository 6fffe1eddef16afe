"""Whole lines of calls: against the plain words, with nothing changed of what is handed in."""

import copy
import random
import unittest

from goingon.few import few_check
from goingon.net import answers

import helper
from helper import (Plain, Unchangeable, ask, ask_net, begin, feed, forget, form, go_on, net_bytes, parted, silent_net,
                    some_net, tell, write)


def some_call(source, net):
    seed = source.choice((0, helper.TOP_SEED, source.randrange(2 ** 64)))
    most = source.choice((1, 2, net["words"], net["words"] + 1, 0, -5, 2147483647))
    words = [source.randrange(net["words"]) for time in range(source.randint(0, 3))]
    if source.random() < 0.1:
        words.append(source.choice((net["words"], 65535)))
    k = source.randint(-1, net["places"] + 1)
    return source.choice((("feed", *words), ("feed", *words), ("forget", k), ("tell",), ("go_on", most, seed),
                          ("write", most, seed, source.choice((0, 1, 3, 256, 257, -1)))))


class AgainstThePlainWords(unittest.TestCase):
    def check(self, number):
        source = random.Random(1000 + number)
        net = some_net(number)
        plain = Plain(net)
        calls = [("feed", 0)] + [some_call(source, net) for time in range(25)]
        expected = [getattr(plain, name)(*given) for name, *given in calls]
        asked = ask_net(net, *[getattr(helper, name)(*given) for name, *given in calls])
        self.assertEqual(asked, expected, number)

    def test_many_nets(self):
        for number in range(150):
            self.check(number)

    def test_wide_rows(self):
        source = random.Random(5)
        for heads, width, inner in ((1, 65, 3), (2, 66, 2), (3, 3, 130), (8, 8, 64)):
            word = helper.some_matrix(source, 3, width, 0.5)
            net = silent_net(word, heads=heads, inner=inner, last=helper.some_gains(source, width))
            net["place"] = helper.some_matrix(source, 4, width, 0.3)
            layer = net["layer"][0]
            layer["value"] = scaled_part(source, width, width)
            layer["out"] = scaled_part(source, width, width)
            layer["up"] = scaled_part(source, inner, width)
            layer["down"] = scaled_part(source, width, inner)
            plain = Plain(net)
            expected = [plain.feed(2, 0, 1), plain.tell(), plain.forget(2), plain.tell()]
            self.assertEqual(ask_net(net, feed(2, 0, 1), tell(), forget(2), tell()), expected)


def scaled_part(source, rows, columns):
    """Few numbers, so that a net with wide rows still fits into a list of calls."""
    matrix = helper.some_matrix(source, rows, columns, 0.05)
    return helper.scaled(matrix, added=source.randint(-50, 50), multiplied=source.randint(1, 9), shift=9)


def a_line():
    net = some_net(4)
    data = net_bytes(net)
    calls = [begin(data), feed(0, 0), tell(), write(3, 99, 3), tell(), begin(data[:-1]), forget(1), feed(), feed(65535),
             begin(data), tell()]
    return [number for call in calls for number in call]


class WhatIsHandedIn(unittest.TestCase):
    def test_a_line_is_the_same_afterwards(self):
        line = a_line()
        before = copy.deepcopy(line)
        answers(line)
        self.assertEqual(line, before)
        self.assertEqual(answers(Unchangeable(line)), answers(line))

    def test_a_form_is_the_same_afterwards(self):
        for data in (form([[1, 2], [0, 3]]), form([[1, 2], [0, 3]]) + [7], [], [0], form([[5] * 70])[:-1]):
            before = copy.deepcopy(data)
            asked = few_check(data)
            self.assertEqual(data, before)
            self.assertEqual(few_check(Unchangeable(data)), asked)

    def test_asked_twice(self):
        line = a_line()
        first = answers(line)
        kept = list(first)
        first.clear()
        self.assertEqual(answers(line), kept)
        data = form([[1, 2], [0, 3]])
        few_check(data).append(5)
        self.assertEqual(few_check(data), [0, 2, 2, 3])

    def test_whole_numbers_in_a_list_are_given_back(self):
        for asked in (answers(a_line()), few_check([]), few_check(form([[1]]))):
            self.assertIs(type(asked), list)
            self.assertEqual({type(number) for number in asked}, {int})


class LongLines(unittest.TestCase):
    def test_one_call(self):
        self.assertEqual(answers([11, 0]), [1, -2])
        data = net_bytes(silent_net([[0]]))
        self.assertEqual(answers([11, len(data)] + data), [1, 0])

    def test_how_many_numbers_are_answered_stands_ahead(self):
        data = net_bytes(silent_net([[0], [0]], leaning=[-4, 4]))
        calls = begin(data) + [14] + [12, 0] + [12, 2, 0, 0] + [14] + [15, 1, 0] + [16, 1, 0, 1] + [13, 9] + [13, 2]
        self.assertEqual(answers(calls), [1, 0, 1, -5, 2, 0, 0, 2, 2, 8, 3, 2, -4, 4, 1, 1, 2, 1, 1, 1, -1, 1, 2])

    def test_numbers_that_are_like_a_call_s(self):
        for number in range(11, 17):
            net = silent_net([[0]] * 20, places=60, leaning=[0] + [-1] * number + [9] + [-1] * (18 - number))
            calls = [feed(*[number] * 20), go_on(number, number), write(number, number, number), forget(number), tell()]
            plain = Plain(net)
            expected = [plain.feed(*[number] * 20), plain.go_on(number, number), plain.write(number, number, number),
                        plain.forget(number), plain.tell()]
            self.assertEqual(ask_net(net, *calls), expected)

    def test_200_calls(self):
        net = silent_net([[0], [0]], places=256, leaning=[0, 1])
        calls = [begin(net_bytes(net))] + [feed(0)] * 199
        self.assertEqual(ask(*calls), [[0], [1, 0]] + [[fed, 1] for fed in range(2, 200)])

    def test_97_tells(self):
        net = silent_net([[0], [0]], leaning=[0, 1])
        self.assertEqual(ask_net(net, feed(1), *[tell()] * 97)[1:], [[2, 0, 1]] * 97)

    def test_a_list_of_16000_numbers(self):
        net = silent_net([[1]] * 3, inner=100)
        data = net_bytes(net)
        begins = 16000 // (len(data) + 2)
        self.assertGreater(begins, 2)
        calls = [begin(data)] * begins
        self.assertEqual(ask(*calls), [[0]] * begins)
        self.assertEqual(parted(answers([11, 15900] + [0] * 15900)), [[-2]])


if __name__ == "__main__":
    unittest.main()

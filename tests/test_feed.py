import unittest

from helper import ask, ask_net, begin, feed, forget, go_on, net_bytes, silent_net, some_net, tell, write, zeros


def three_words():
    """Behind word 0 or 1 the scores are 6, 2, 9, behind word 2 they are 5, 0, 10."""
    return silent_net([[1], [2], [-1]], places=5, leaning=[5, 0, 10])


def live_nets():
    """Nets with at least 4 words and 6 places, in which the words before have their say."""
    nets = [some_net(number) for number in range(120)]
    return [net for net in nets if net["words"] >= 4 and net["places"] >= 6][:12]


class Feed(unittest.TestCase):
    def test_the_scores_behind_each_word(self):
        self.assertEqual(ask_net(three_words(), feed(0), tell(), feed(1), tell(), feed(2), tell()),
                         [[1, 0], [3, 6, 2, 9], [2, 7], [3, 6, 2, 9], [3, 0], [3, 5, 0, 10]])

    def test_no_word_at_all(self):
        self.assertEqual(ask_net(three_words(), feed(), tell(), feed(1), feed(), feed(2), feed()),
                         [[0, 0], [-5], [1, 0], [1, 0], [2, 0], [2, 0]])

    def test_a_word_before_which_none_was_fed_costs_nothing(self):
        for word in range(3):
            self.assertEqual(ask_net(three_words(), feed(word)), [[1, 0]])

    def test_cost(self):
        self.assertEqual(ask_net(three_words(), feed(0, 1, 2)), [[3, 7]])
        self.assertEqual(ask_net(three_words(), feed(2, 0)), [[2, 5]])
        self.assertEqual(ask_net(three_words(), feed(2, 2, 1, 1, 0)), [[5, 20]])

    def test_cost_is_this_call_s_alone(self):
        self.assertEqual(ask_net(three_words(), feed(2), feed(1, 1), feed(0), feed(2)),
                         [[1, 0], [3, 17], [4, 3], [5, 0]])

    def test_cost_behind_what_was_forgotten(self):
        self.assertEqual(ask_net(three_words(), feed(2, 1), forget(1), feed(0), forget(0), feed(1)),
                         [[2, 10], [1], [2, 5], [0], [1, 0]])

    def test_a_word_that_is_not_there(self):
        for words in ((3,), (65535,), (0, 3), (3, 0), (0, 4, 1)):
            parts = ask_net(three_words(), feed(2), feed(*words), tell(), feed(1))
            self.assertEqual(parts[1:], [[-3], [3, 5, 0, 10], [2, 10]])

    def test_a_word_that_is_not_there_as_the_first(self):
        self.assertEqual(ask_net(three_words(), feed(0, 3), tell(), feed(1)), [[-3], [-5], [1, 0]])

    def test_more_than_places(self):
        parts = ask_net(three_words(), feed(2, 2), feed(0, 0, 0, 0), tell(), feed(0, 0, 0), feed(0), feed(), tell())
        self.assertEqual(parts, [[2, 0], [-4], [3, 5, 0, 10], [5, 11], [-4], [5, 0], [3, 6, 2, 9]])
        self.assertEqual(ask_net(three_words(), feed(0, 0, 0, 0, 0, 0), tell()), [[-4], [-5]])

    def test_of_both_a_word_that_is_not_there_goes_first(self):
        parts = ask_net(three_words(), feed(0, 0, 0, 0, 0), feed(3), feed(0, 3), feed(0))
        self.assertEqual(parts[1:], [[-3], [-3], [-4]])
        self.assertEqual(ask_net(three_words(), feed(0, 0, 0, 0, 0, 0, 3)), [[-3]])

    def test_as_many_words_as_places(self):
        self.assertEqual(ask_net(three_words(), feed(2, 2, 2, 2, 2)), [[5, 0]])
        net = silent_net([[0], [0]], places=256, leaning=[9, 2])
        words = [number % 2 for number in range(256)]
        self.assertEqual(ask_net(net, feed(*words), feed(0), feed()), [[256, 7 * 128], [-4], [256, 0]])
        self.assertEqual(ask_net(silent_net([[0]], places=1), feed(0), feed(0)), [[1, 0], [-4]])

    def test_more_than_256_at_once(self):
        net = silent_net([[0], [0]], places=256)
        self.assertEqual(ask_net(net, feed(*[0] * 257), feed(), feed(*[5] * 257), feed(*[5] * 256)),
                         [[-1], [0, 0], [-1], [-3]])

    def test_one_by_one_or_all_at_once(self):
        for net in live_nets():
            words = [3, 0, 2, 2, 1, 3]
            at_once = ask_net(net, feed(*words), tell())
            singly = ask_net(net, *[feed(word) for word in words], tell())
            self.assertEqual(at_once[1], singly[-1])
            self.assertEqual(at_once[0][1], sum(part[1] for part in singly[:-1]))


class Forget(unittest.TestCase):
    def test_none_and_all(self):
        parts = ask_net(three_words(), forget(0), feed(0, 2), forget(2), tell(), forget(0), tell(), feed(), forget(0))
        self.assertEqual(parts, [[0], [2, 0], [2], [3, 5, 0, 10], [0], [-5], [0, 0], [0]])

    def test_some(self):
        parts = ask_net(three_words(), feed(0, 2, 1, 2), forget(3), tell(), feed(), forget(2), tell(), feed(1))
        self.assertEqual(parts[1:], [[3], [3, 6, 2, 9], [3, 0], [2], [3, 5, 0, 10], [3, 10]])

    def test_out_of_range(self):
        for k in (-1, -2, -2147483648, 3, 4, 6, 2147483647):
            parts = ask_net(three_words(), feed(0, 2), forget(k), tell(), feed())
            self.assertEqual(parts[1:], [[-1], [3, 5, 0, 10], [2, 0]])
        for k in (-1, 1, 2147483647):
            self.assertEqual(ask_net(three_words(), forget(k)), [[-1]])

    def test_places_are_free_again(self):
        parts = ask_net(three_words(), feed(0, 0, 0, 0, 0), forget(3), feed(0, 0, 0), feed(0, 0), feed(0))
        self.assertEqual(parts[1:], [[3], [-4], [5, 6], [-4]])

    def test_as_if_only_the_first_had_ever_been_fed(self):
        for net in live_nets():
            words = [1, 3, 2, 0, 3, 2]
            behind = [tell(), go_on(9, 2 ** 63), feed(0), tell(), write(4, 77, 3), feed()]
            for k in range(1, 6):
                forgot = ask_net(net, feed(*words), forget(k), *behind)
                never = ask_net(net, feed(*words[:k]), *behind)
                self.assertEqual(forgot[2:], never[1:])

    def test_what_was_written_is_forgotten_too(self):
        for net in live_nets():
            forgot = ask_net(net, feed(1, 2), write(4, 99, 3), forget(1), feed(3, 3), tell())
            never = ask_net(net, feed(1, 3, 3), tell())
            self.assertEqual(forgot[-1], never[-1])


class NothingKept(unittest.TestCase):
    def test_places_count_from_the_front(self):
        net = silent_net(zeros(2, 1), places=3)
        net["word"][1] = [1]
        net["place"] = [[0], [1], [-1]]
        net["last"] = [8128]
        parts = ask_net(net, feed(0), tell(), feed(0), tell(), feed(0), tell(), forget(1), feed(0), tell())
        self.assertEqual([part[2] for part in parts if len(part) == 3], [0, 64, -63, 64])

    def test_two_lists_know_nothing_of_one_another(self):
        net = some_net(4)
        data = net_bytes(net)
        first = ask(begin(data), feed(0, 0), tell())
        ask(begin(net_bytes(some_net(6))), feed(0))
        self.assertEqual(ask(begin(data), tell(), feed(0, 0), tell()), [[0], [-5]] + first[1:])


if __name__ == "__main__":
    unittest.main()

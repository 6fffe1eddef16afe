import unittest

from helper import TOP_SEED, ask_net, feed, forget, go_on, silent_net, some_net, tell, write, zeros

ALL = 2147483647


def leaning_net(leaning, falling, c=0, places=256):
    """A net in which every word's score is always its leaning."""
    net = silent_net(zeros(len(leaning), 1), places=places, leaning=leaning)
    net["falling"] = falling + [falling[-1]] * (256 - len(falling))
    net["c"] = c
    return net


def five_words():
    """Their weights are 3, 8, 8, 1, 8."""
    return leaning_net([3, 7, 7, 1, 7], [8, 5, 3, 1], c=1)


def least_seed(u, total):
    """The least seed of which seed total / 2^64 is u."""
    return -(-u * 2 ** 64 // total)


def next_words(net, most, seeds):
    return [part[0] for part in ask_net(net, feed(0), *[go_on(most, seed) for seed in seeds])[1:]]


def drawn(weights, seed, times):
    """The words that weights which stay the same lead to, one after another."""
    words = []
    for time in range(times):
        u = seed * sum(weights) // 2 ** 64
        words.append(min(word for word in range(len(weights)) if sum(weights[:word + 1]) > u))
        seed = (seed * 6364136223846793005 + 1442695040888963407) % 2 ** 64
    return words


class Tell(unittest.TestCase):
    def test_leaning_and_row(self):
        net = silent_net([[1, 0], [0, 1], [2, -3], [0, 0]], leaning=[100, -100, 2 ** 24, -2 ** 24], last=[640, 640])
        self.assertEqual(ask_net(net, feed(0), tell(), feed(2), tell()),
                         [[1, 0], [4, 110, -100, 2 ** 24 + 20, -2 ** 24],
                          [2, 0], [4, 107, -110, 2 ** 24 + 44, -2 ** 24]])

    def test_nothing_is_fed(self):
        self.assertEqual(ask_net(five_words(), tell(), feed(), tell(), feed(1), forget(0), tell()),
                         [[-5], [0, 0], [-5], [1, 0], [0], [-5]])

    def test_equal_scores(self):
        self.assertEqual(ask_net(five_words(), feed(4), tell()), [[1, 0], [5, 3, 7, 7, 1, 7]])

    def test_one_word_and_many(self):
        self.assertEqual(ask_net(leaning_net([-7], [1]), feed(0), tell()), [[1, 0], [1, -7]])
        many = list(range(-500, 500))
        self.assertEqual(ask_net(leaning_net(many, [1], places=4), feed(999), tell()), [[1, 0], [1000] + many])

    def test_asked_twice(self):
        parts = ask_net(some_net(4), feed(0, 0), tell(), tell(), go_on(2, 5), tell(), feed())
        self.assertEqual(parts[1], parts[2])
        self.assertEqual(parts[1], parts[4])
        self.assertEqual(parts[5], [2, 0])


class Next(unittest.TestCase):
    def test_refusals(self):
        for most in (0, -1, -2147483648):
            self.assertEqual(ask_net(five_words(), go_on(most, 0), feed(0), go_on(most, 0)), [[-1], [1, 0], [-1]])
        self.assertEqual(ask_net(five_words(), go_on(1, 0), go_on(ALL, TOP_SEED)), [[-5], [-5]])

    def test_the_most_likely_alone(self):
        seeds = (0, 1, 2 ** 32, 2 ** 63 - 1, 2 ** 63, TOP_SEED)
        self.assertEqual(next_words(five_words(), 1, seeds), [1] * 6)
        self.assertEqual(next_words(leaning_net([1, 2, 3], [5, 4]), 1, seeds), [2] * 6)
        self.assertEqual(next_words(leaning_net([3, 2, 1], [5, 4]), 1, seeds), [0] * 6)

    def test_of_equal_ones_the_lower_words_count(self):
        seeds = (0, 2 ** 63 - 1, 2 ** 63, TOP_SEED)
        self.assertEqual(next_words(five_words(), 2, seeds), [1, 1, 2, 2])
        third = [least_seed(u, 24) for u in (7, 8, 15, 16, 23)]
        self.assertEqual(next_words(five_words(), 3, third), [1, 2, 2, 4, 4])

    def test_weights_up_to_a_word_s_own(self):
        expected = [0] * 3 + [1] * 8 + [2] * 8 + [3] + [4] * 8
        seeds = [least_seed(u, 28) for u in range(28)]
        for most in (5, 6, 4096, ALL):
            self.assertEqual(next_words(five_words(), most, seeds), expected)
            self.assertEqual(next_words(five_words(), most, [seed - 1 for seed in seeds[1:]]), expected[:-1])
            self.assertEqual(next_words(five_words(), most, [TOP_SEED]), [4])

    def test_what_does_not_count_weighs_nothing(self):
        expected = [0] * 3 + [1] * 8 + [2] * 8 + [4] * 8
        seeds = [least_seed(u, 27) for u in range(27)]
        self.assertEqual(next_words(five_words(), 4, seeds), expected)
        self.assertEqual(next_words(five_words(), 4, [seed - 1 for seed in seeds[1:]]), expected[:-1])

    def test_a_weight_of_0_is_never_taken(self):
        net = leaning_net([0, 9, 0, 9, 0], [7, 0])
        self.assertEqual(next_words(net, ALL, [0, 2 ** 63 - 1, 2 ** 63, TOP_SEED]), [1, 1, 3, 3])

    def test_differences_go_towards_below(self):
        net = leaning_net([8, 15, 9, 12, 11], [4, 2, 1], c=2)
        expected = [0] * 2 + [1] * 4 + [2] * 2 + [3] * 4 + [4] * 2
        weights = [2, 4, 2, 4, 2]
        self.assertEqual(sum(weights), len(expected))
        self.assertEqual(next_words(net, 5, [least_seed(u, 14) for u in range(14)]), expected)

    def test_the_greatest_c(self):
        net = leaning_net([2 ** 24, 0, 1, -2 ** 24, 1 - 2 ** 24], [4, 2, 1], c=24)
        expected = [0] * 4 + [1] * 2 + [2] * 4 + [3] + [4] * 2
        self.assertEqual(next_words(net, 5, [least_seed(u, 13) for u in range(13)]), expected)

    def test_the_falling_table_at_255_and_beyond(self):
        falling = [9] * 255 + [2]
        net = leaning_net([0, -254, -255, -256, -100000, -2 ** 24], falling)
        expected = [0] * 9 + [1] * 9 + [2] * 2 + [3] * 2 + [4] * 2 + [5] * 2
        self.assertEqual(next_words(net, 6, [least_seed(u, 26) for u in range(26)]), expected)

    def test_b_is_the_greatest_score_and_seeds_are_exact(self):
        net = leaning_net([1, 2], [65535, 65534])
        total = 65535 + 65534
        edge = least_seed(65534, total)
        self.assertEqual(next_words(net, 2, [edge - 1, edge]), [0, 1])

    def test_nothing_is_fed_by_it(self):
        parts = ask_net(some_net(4), feed(0), tell(), go_on(2, 3), go_on(2, 3), feed(), tell())
        self.assertEqual(parts[2], parts[3])
        self.assertEqual(parts[4], [1, 0])
        self.assertEqual(parts[5], parts[1])


class Write(unittest.TestCase):
    def test_refusals(self):
        for most, k in ((0, 1), (-1, 1), (-2147483648, 0), (1, -1), (1, 257), (1, 2147483647), (1, -2147483648),
                        (0, 257)):
            parts = ask_net(five_words(), write(most, 0, k), feed(2), write(most, 0, k), feed())
            self.assertEqual(parts, [[-1], [1, 0], [-1], [1, 0]])
        self.assertEqual(ask_net(five_words(), write(1, 0, 0), write(1, 0, 5), write(ALL, 0, 256)), [[-5]] * 3)

    def test_refused_where_all_places_are_fed(self):
        parts = ask_net(leaning_net([1, 2], [1], places=1), feed(0), write(0, 0, 1), write(1, 0, 257), write(1, 0, 1))
        self.assertEqual(parts[1:], [[-1], [-1], [0]])

    def test_no_time_at_all(self):
        self.assertEqual(ask_net(five_words(), feed(2), write(3, 5, 0), feed()), [[1, 0], [0], [1, 0]])

    def test_k_times(self):
        self.assertEqual(ask_net(five_words(), feed(2), write(1, 0, 1), feed()), [[1, 0], [1, 1], [2, 0]])
        self.assertEqual(ask_net(five_words(), feed(2), write(1, 9, 4), feed()), [[1, 0], [4, 1, 1, 1, 1], [5, 0]])

    def test_all_places_are_fed(self):
        net = leaning_net([0, 5], [1, 0], places=4)
        self.assertEqual(ask_net(net, feed(0), write(1, 0, 3), feed()), [[1, 0], [3, 1, 1, 1], [4, 0]])
        self.assertEqual(ask_net(net, feed(0), write(1, 0, 4), write(1, 0, 4)), [[1, 0], [3, 1, 1, 1], [0]])
        self.assertEqual(ask_net(net, feed(0, 0, 0, 0), write(1, 0, 1)), [[4, 15], [0]])

    def test_256_times(self):
        net = leaning_net([0, 5], [1, 0])
        parts = ask_net(net, feed(0), write(1, 0, 256), feed(), forget(1), write(2, 0, 254), feed())
        self.assertEqual(parts[1:], [[255] + [1] * 255, [256, 0], [1], [254] + [1] * 254, [255, 0]])

    def test_the_word_0_is_put_down_and_fed_and_ends_it(self):
        net = leaning_net([5, 0], [1, 0], places=9)
        self.assertEqual(ask_net(net, feed(1), write(1, 0, 5), feed(), tell()), [[1, 0], [1, 0], [2, 0], [2, 5, 0]])

    def test_the_word_0_ends_it_behind_others(self):
        net = leaning_net([0, 0, 0, 0], [1])
        ends = 0
        for seed in range(0, 2 ** 64, 2 ** 64 // 23):
            words = drawn([1, 1, 1, 1], seed, 12)
            if 0 in words:
                words = words[:words.index(0) + 1]
                ends += 1
            parts = ask_net(net, feed(0), write(4, seed, 12), feed())
            self.assertEqual(parts[1:], [[len(words)] + words, [1 + len(words), 0]])
        self.assertGreater(ends, 5)

    def test_the_seed_from_word_to_word(self):
        weights = [0, 1, 2, 3, 4, 5]
        net = leaning_net([0, 1, 2, 3, 4, 5], [5, 4, 3, 2, 1, 0])
        for seed in (0, 1, 2 ** 63, TOP_SEED, 88172645463325252):
            self.assertEqual(ask_net(net, feed(0), write(6, seed, 40))[1], [40] + drawn(weights, seed, 40))

    def test_the_first_seeds_from_0(self):
        net = leaning_net([-1] + [0] * 100, [1, 0])
        seeds = [0, 1442695040888963407, 1876011003808476466]
        self.assertEqual(ask_net(net, feed(0), write(101, 0, 3))[1],
                         [3] + [1 + seed * 100 // 2 ** 64 for seed in seeds])

    def test_as_one_next_after_another(self):
        for number in range(12):
            net = some_net(number)
            for most in (1, 2, net["words"], net["words"] + 1):
                seed = 1234567890123456789 * (number + 1) % 2 ** 64
                written = ask_net(net, feed(0), write(most, seed, 5), tell())
                words = []
                while len(words) < 5 and 1 + len(words) < net["places"] and words[-1:] != [0]:
                    words += ask_net(net, feed(0, *words), go_on(most, seed))[1]
                    seed = (6364136223846793005 * seed + 1442695040888963407) % 2 ** 64
                self.assertEqual(written[1], [len(words)] + words)
                self.assertEqual(written[2], ask_net(net, feed(0, *words), tell())[1])


if __name__ == "__main__":
    unittest.main()

"""One net and what's fed to it."""

from goingon.choice import choose, word_scores
from goingon.passing import Kept, pass_word
from goingon.reader import Fault
from goingon.weights import MOST_NET_BYTES, Net

MOST_AT_ONCE = 256
SEED_FACTOR = 6364136223846793005
SEED_STEP = 1442695040888963407
SEED_COUNT = 18446744073709551616


# levels has for each word that's fed what its scores are made of.
class Session:
    def __init__(self):
        self.net = None
        self.kept_layers = []
        self.levels = []

    def begin(self, data):
        if len(data) > MOST_NET_BYTES:
            return [-1]
        try:
            net = Net(data)
        except Fault:
            return [-2]
        self.net = net
        self.kept_layers = [Kept(net.width) for layer in net.layers]
        self.levels = []
        return [0]

    def feed(self, words):
        if len(words) > MOST_AT_ONCE:
            return [-1]
        if any([word >= self.net.words for word in words]):
            return [-3]
        if len(self.levels) + len(words) > self.net.places:
            return [-4]
        cost = 0
        for word in words:
            if self.levels:
                cost += self.cost(word)
            self.take(word)
        return [len(self.levels), cost]

    def forget(self, k):
        if k < 0 or k > len(self.levels):
            return [-1]
        self.levels = self.levels[:k]
        for kept in self.kept_layers:
            kept.keep_only(k)
        return [k]

    def tell(self):
        if not self.levels:
            return [-5]
        return [self.net.words] + self.scores()

    def go_on(self, most, seed):
        if most < 1:
            return [-1]
        if not self.levels:
            return [-5]
        return [choose(self.net, self.scores(), most, seed)]

    def write(self, most, seed, k):
        if most < 1 or k < 0 or k > MOST_AT_ONCE:
            return [-1]
        if not self.levels:
            return [-5]
        written = []
        while len(written) < k and len(self.levels) < self.net.places:
            word = choose(self.net, self.scores(), most, seed)
            written.append(word)
            self.take(word)
            seed = (SEED_FACTOR * seed + SEED_STEP) % SEED_COUNT
            if word == 0:
                break
        return [len(written)] + written

    def scores(self):
        return word_scores(self.net, self.levels[-1])

    def cost(self, word):
        scores = self.scores()
        return max(scores) - scores[word]

    def take(self, word):
        self.levels.append(pass_word(self.net, self.kept_layers, word, len(self.levels)))

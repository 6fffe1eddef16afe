"""Scores, and the next word that they lead to."""

from goingon.falling import weigh
from goingon.whole import line_sum


def word_scores(net, level):
    return [leaning + line_sum(line, level) for leaning, line in zip(net.leanings, net.word_lines)]


def choose(net, scores, most, seed):
    weights = weigh(net.falling, net.fall_shift, scores)
    # sorted keeps the order of equal ones, so the lower word stays ahead.
    order = sorted(range(len(scores)), key=lambda word: -scores[word])
    for word in order[most:]:
        weights[word] = 0
    return first_above(weights, (seed * sum(weights)) >> 64)


def first_above(weights, bound):
    word = 0
    so_far = weights[0]
    while so_far <= bound:
        word += 1
        so_far += weights[word]
    return word

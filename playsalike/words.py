"""Words in their sequence: a, b, .. z, aa, ab, and so on; and the first ones that are not barred."""

from playsalike.kinds import SIGNS


def word_numbered(number):
    """The word of this number, from 0, in the sequence a, b, .. z, aa, ab, .."""
    word = SIGNS[number % 26]
    while number >= 26:
        number = number // 26 - 1
        word = SIGNS[number % 26] + word
    return word


def fresh_words(barred, many):
    """The first so many words of the sequence that are not among the barred ones."""
    found = []
    number = 0
    while len(found) < many:
        word = word_numbered(number)
        if word not in barred:
            found.append(word)
        number += 1
    return found


def fresh_word(barred):
    """The first word of the sequence that is not among the barred ones."""
    return fresh_words(barred, 1)[0]

"""All the words in one dict, from a word's text to what does it."""

from stackwords.flow_words import FLOW_WORDS
from stackwords.number_words import NUMBER_WORDS
from stackwords.stack_words import STACK_WORDS
from stackwords.store_words import STORE_WORDS


def all_words():
    words = dict(STACK_WORDS)
    words.update(dict(NUMBER_WORDS))
    words.update(dict(FLOW_WORDS))
    words.update(dict(STORE_WORDS))
    return words

"""Searching all words in their order, shorter ones first: what subsets and maps have in common."""


def words_in_order(start, many, step):
    """Yield each value that a word of one or more indexes below `many` leads to, with its least word.

    The words begin at the value `start`, and step(value, index) tells where one more index leads.
    The pairs come in the order of the words. Only least words are made longer, since a part of a least
    word is a least word.
    """
    seen = set()
    level = [(start, ())]
    while level:
        longer = []
        # The list that is filled here is the next level, so a copy of the level is walked.
        for value, word in list(level):
            for index in range(many):
                after = step(value, index)
                if after not in seen:
                    seen.add(after)
                    longer.append((after, (*word, index)))
                    yield (after, (*word, index))
        level = longer

"""Trees and spellings: two other forms in which codes are told."""

from lettertoll.codes import is_lean, refuse_clash
from lettertoll.errors import BadSpelling, BadWord, Unlike
from lettertoll.words import has_letters_alone


def tree_of(code, letters):
    if not all([has_letters_alone(word, letters) for word in code]):
        raise BadWord("a word has a number that is no letter's")
    refuse_clash(code)
    return tree_of_pairs(list(enumerate(code)), letters)


def tree_of_pairs(pairs, letters):
    # Free of clashes: where one word is empty, there is no other one.
    if len(pairs[0][1]) == 0:
        return pairs[0][0]
    return tuple([branch_of(pairs, letter, letters) for letter in range(letters)])


def branch_of(pairs, letter, letters):
    inside = [(thing, word[1:]) for thing, word in pairs if word[0] == letter]
    if len(inside) == 0:
        return None
    return tree_of_pairs(inside, letters)


def code_of(tree):
    return tuple([word for thing, word in sorted(pairs_of(tree, ()))])


def pairs_of(tree, word):
    if tree is None:
        return []
    if isinstance(tree, int):
        return [(tree, word)]
    pairs = []
    for letter, branch in enumerate(tree):
        pairs.extend(pairs_of(branch, word + (letter,)))
    return pairs


def spelling_of(code):
    refuse_clash(code)
    if not is_lean(code):
        raise Unlike("the code is not lean")
    return spelled(code)


def spelled(words):
    spelling = []
    if len(words) == 1:
        return spelling
    for letter in sorted(set([word[0] for word in words])):
        inside = [word[1:] for word in words if word[0] == letter]
        spelling.append((letter, len(inside)))
        spelling.extend(spelled(inside))
    return spelling


def code_by(letters, things, spelling):
    found = words_spelled(letters, things, spelling, 0)
    if things < 1 or found[1] != len(spelling):
        raise BadSpelling("the list is the spelling of no lean code")
    return tuple(found[0])


def words_spelled(letters, things, spelling, at):
    # A pair: the words that the pairs from `at` on spell, and where these end.
    if things == 1:
        return ([()], at)
    words = []
    least = 0
    while len(words) < things:
        # A way on with all things would leave the knot lone.
        most = min(things - 1, things - len(words))
        if at >= len(spelling) or not is_way_on(spelling[at], least, letters, most):
            raise BadSpelling("the list is the spelling of no lean code")
        letter = spelling[at][0]
        inside = words_spelled(letters, spelling[at][1], spelling, at + 1)
        words.extend([(letter,) + word for word in inside[0]])
        least = letter + 1
        at = inside[1]
    return (words, at)


def is_way_on(pair, least, letters, most):
    return least <= pair[0] < letters and 1 <= pair[1] <= most

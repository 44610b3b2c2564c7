"""Books with tables left out: which parts of a book are settled, and how few tables must go."""

from nearsettled.checks import are_numbers
from nearsettled.folds import Fold, fold_or_paper, keeps, set_uses, shows_fooled


def _lists_of(many, length):
    """The ascending list of the ascending lists of a length of numbers below a bound."""
    found = [[]]
    for _ in range(length):
        found = [some + [number] for some in found for number in range(some[-1] + 1 if some != [] else 0, many)]
    return found


def _rest(many, numbers):
    """The ascending list of the numbers below a bound that are not among some numbers."""
    return [number for number in range(many) if number not in numbers]


def _lies_in(numbers, others):
    """Whether all of some numbers are among others."""
    return all([number in others for number in numbers])


def _tables_used(papers):
    """For each of some fooling papers the ascending list of the numbers of the tables that its rows use."""
    return [sorted(set([table for table, _ in paper[0].rows])) for paper in papers]


def sub_books(book):
    """(parts, papers): the greatest settled parts of a book with their folds, and fooling papers for all others."""
    uses = set_uses(book)
    settled = {}
    papers = []
    for length in range(len(book), -1, -1):
        for numbers in _lists_of(len(book), length):
            if not _is_covered(numbers, list(settled), _tables_used(papers)):
                found = fold_or_paper(book, uses, numbers)
                if found[0] == "yes":
                    settled[tuple(numbers)] = found[1]
                else:
                    papers.append(found[1:])
    return ([(list(numbers), settled[numbers]) for numbers in sorted(settled)], papers)


def _is_covered(numbers, parts, used):
    """Whether numbers of tables lie in one of some parts, or have all of one of some lists of used tables."""
    return any([_lies_in(numbers, part) for part in parts]) or any([_lies_in(some, numbers) for some in used])


def _is_part(book, value):
    """Whether a value, of any value, is a tuple (numbers, fold) with a fold that keeps the tables with the numbers."""
    if not isinstance(value, tuple) or len(value) != 2 or not are_numbers(value[0], len(book)):
        return False
    return _keeps_all(book, value[0], value[1])


def _keeps_all(book, numbers, value):
    """Whether a value, of any value, is a fold that keeps the tables with some numbers."""
    if not isinstance(value, Fold) or value.width != book.width:
        return False
    return keeps(value, [book[number] for number in numbers])


def _are_papers(book, value):
    """Whether a value, of any value, is a list of fooling papers over the book."""
    return isinstance(value, list) and all([shows_fooled(book, paper) for paper in value])


def shows_sub_books(book, value):
    """Whether a value, of any value, is a tuple (parts, papers) that covers all parts of a book."""
    if not isinstance(value, tuple) or len(value) != 2:
        return False
    parts, papers = value
    if not isinstance(parts, list) or not all([_is_part(book, part) for part in parts]):
        return False
    if not _are_papers(book, papers):
        return False
    settled = [numbers for numbers, _ in parts]
    used = _tables_used(papers)
    for length in range(len(book) + 1):
        for numbers in _lists_of(len(book), length):
            if not _is_covered(numbers, settled, used):
                return False
    return True


def least_drop(book):
    """(numbers, fold, papers): a least drop of a book, a fold of the rest, and fooling papers that show it least."""
    uses = set_uses(book)
    many = len(book)
    drops = [numbers for length in range(many + 1) for numbers in _lists_of(many, length)]
    at = 0
    papers = []
    found = fold_or_paper(book, uses, list(range(many)))
    while found[0] == "no":
        papers.append(found[1:])
        used = _tables_used(papers)
        # A drop that leaves all tables of a paper is none.
        while not _hits_all(drops[at], used):
            at += 1
        found = fold_or_paper(book, uses, _rest(many, drops[at]))
    return (drops[at], found[1], papers)


def _hits_all(numbers, used):
    """Whether numbers name one at least of each list of used tables."""
    return all([any([number in numbers for number in some]) for some in used])


def shows_drop(book, value):
    """Whether a value, of any value, is a tuple (numbers, fold, papers) that shows a least drop."""
    if not isinstance(value, tuple) or len(value) != 3:
        return False
    numbers, fold, papers = value
    if not are_numbers(numbers, len(book)) or not _keeps_all(book, _rest(len(book), numbers), fold):
        return False
    if not _are_papers(book, papers):
        return False
    used = _tables_used(papers)
    for length in range(len(numbers)):
        for fewer in _lists_of(len(book), length):
            if _hits_all(fewer, used):
                return False
    return True

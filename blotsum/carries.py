"""The carries of a sum, and papers, which show by carries that it has no filling."""

from blotsum.entries import is_whole
from blotsum.errors import NoPaper
from blotsum.sums import SumChain


def carries(page):
    """For each place, and for behind the last, all carries into it that can come, rising."""
    return [sorted(ways) for ways in SumChain(page).ways_ahead()]


def is_paper(thing, places):
    """Whether anything is a paper of a sum with so many places."""
    if not isinstance(thing, list) or len(thing) != places + 1:
        return False
    if not all([isinstance(numbers, list) for numbers in thing]):
        return False
    return all([is_whole(number) for numbers in thing for number in numbers])


def shows_none(page, paper):
    """Whether a paper shows that the sum has no filling."""
    chain = SumChain(page)
    if not is_paper(paper, len(chain.grid)):
        return False
    if 0 not in paper[0] or 0 in paper[-1]:
        return False
    for place, rows in enumerate(chain.grid):
        out = chain.through({number: 1 for number in paper[place]}, rows)
        if len(set(out) - set(paper[place + 1])) > 0:
            return False
    return True


def paper_of(page):
    """The paper that shows that the sum has no filling: its carries."""
    told = carries(page)
    if 0 in told[-1]:
        raise NoPaper("the sum has a filling")
    return told

"""Anybody's papers and claims audited by their texts."""

from takeandsplit.booktexts import book_fault, read_book
from takeandsplit.engine import Engine
from takeandsplit.housetexts import house_fault, read_house
from takeandsplit.judging import judged_fault
from takeandsplit.papertexts import paper_fault, papers_fault, read_paper, read_papers
from takeandsplit.positiontexts import claim_fault, read_claim
from takeandsplit.refusals import claim_refusal, last_refusal
from takeandsplit.takings import grows
from takeandsplit.tame import tame_fault


def first_unread(places):
    """The first word with the place of a text that is not read, of pairs of a word and a place, None if all are."""
    for word, place in places:
        if place is not None:
            return (word,) + place
    return None


def audit_paper(book_text, paper_text):
    """What is wrong with the texts of a book and of a paper of it, None if the paper is right."""
    unread = first_unread([("book", book_fault(book_text)), ("paper", paper_fault(paper_text))])
    if unread is not None:
        return unread
    fault = judged_fault(read_book(book_text), read_paper(paper_text))
    return None if fault is None else ("wrong", fault)


def papers_wrong(house, papers):
    """What is wrong with the papers, a dict by names, for the house, None if there is a right one of each book."""
    books = dict(house.books())
    for name in sorted(list(books) + list(papers)):
        if name not in books or name not in papers:
            return ("lacks", name)
    for name, book in house.books():
        fault = judged_fault(book, papers[name])
        if fault is not None:
            return ("wrong", name, fault)
    return None


def place_wrong(house, position):
    """The index of the first pair whose name is none of the house, None if there is none."""
    names = [name for name, _ in house.books()]
    for index, pair in enumerate(position):
        if pair[0] not in names:
            return ("place", index)
    return None


def books_wrong(engine, position):
    """The first name in the position whose book grows, else whose book is not tame, None if all are tame."""
    names = sorted({name for name, _ in position})
    for name in names:
        if grows(engine.house().book(name)):
            return ("grows", name)
    for name in names:
        fault = tame_fault(engine, name)
        if fault is not None:
            return ("tame", name, fault)
    return None


def audit_by(texts, last):
    """What is wrong with the texts of a house, its papers and a claim, where who takes last loses, or wins."""
    house_text, papers_text, claim_text = texts
    places = [
        ("house", house_fault(house_text)), ("papers", papers_fault(papers_text)), ("claim", claim_fault(claim_text)),
    ]
    unread = first_unread(places)
    if unread is not None:
        return unread
    house, papers, claim = read_house(house_text), dict(read_papers(papers_text)), read_claim(claim_text)
    wrong = papers_wrong(house, papers) or place_wrong(house, claim[0])
    if wrong is not None:
        return wrong
    engine = Engine(house, papers)
    if last:
        return books_wrong(engine, claim[0]) or last_refusal(engine, claim)
    return claim_refusal(engine, claim)


def audit_claim(house_text, papers_text, claim_text):
    """What is wrong with the texts of a house, its papers and a claim, where who takes last wins."""
    return audit_by((house_text, papers_text, claim_text), False)


def audit_last(house_text, papers_text, claim_text):
    """What is wrong with the texts of a house, its papers and a claim, where who takes last loses."""
    return audit_by((house_text, papers_text, claim_text), True)

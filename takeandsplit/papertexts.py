"""Papers as texts."""

from takeandsplit.errors import BadForm
from takeandsplit.paperforms import PaperForm, PapersForm
from takeandsplit.papers import is_paper, need_paper
from takeandsplit.reading import fault_by, read_into
from takeandsplit.things import is_name, is_row


def paper_text(paper):
    """The lines of the paper's begin, period and gain, then one for each of its values."""
    need_paper(paper)
    begin, period, gain, told = paper
    lines = [f"begin {begin}\n", f"period {period}\n", f"gain {gain}\n"]
    return "".join(lines + [f"value {value}\n" for value in told])


def read_paper(text):
    """The paper of a text."""
    form = PaperForm()
    read_into(form, text)
    return form.told_paper()


def paper_fault(text):
    """The place of the first wrong sign of any object as a paper's text, None if there is none."""
    return fault_by(PaperForm(), text)


def is_named_paper(thing):
    """Whether it is a pair of a name and a paper."""
    return is_row(thing) and len(thing) == 2 and is_name(thing[0]) and is_paper(thing[1])


def is_papers_form(thing):
    """Whether it is a list of pairs of a name and a paper, with unlike names."""
    if not is_row(thing) or not all([is_named_paper(part) for part in thing]):
        return False
    return len({part[0] for part in thing}) == len(thing)


def papers_text(papers):
    """For each paper, by names, a line with its name, and the paper's text."""
    if not is_papers_form(papers):
        raise BadForm(papers)
    pairs = sorted([tuple(part) for part in papers], key=lambda pair: pair[0])
    return "".join([f"book {name}\n" + paper_text(paper) for name, paper in pairs])


def read_papers(text):
    """The list of the pairs of a name and a paper of a text, by names, which may be in whatever order there."""
    form = PapersForm()
    read_into(form, text)
    return form.told_papers()


def papers_fault(text):
    """The place of the first wrong sign of any object as a text of papers, None if there is none."""
    return fault_by(PapersForm(), text)

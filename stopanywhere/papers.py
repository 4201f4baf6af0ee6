"""Papers: what tells where the old code stands, and what its places hold, at the blocks of a new one."""

from stopanywhere.cases import checked_case


def is_paper(scope, codes, code, thing):
    """Whether any value is a paper for a new code beside codes."""
    return checked_case(scope, codes, code).is_paper(thing)

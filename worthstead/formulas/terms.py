"""Terms: ascending tuples of names."""

from worthstead.names import are_ascending_names

MOST_IN_TERM = 9


def is_term(value):
    """Whether the value is a term."""
    return are_ascending_names(value) and len(value) <= MOST_IN_TERM


def names_of(terms):
    """The ascending list of the names of some terms."""
    return sorted(set([name for term in terms for name in term]))


def formula_text(terms, response):
    """The text of a formula with these terms, in their order, and this response."""
    texts = [":".join(term) for term in terms if term]
    if () not in terms:
        texts = ["0", *texts]
    right = " + ".join(texts) if texts else "1"
    return right if response is None else f"{response} ~ {right}"

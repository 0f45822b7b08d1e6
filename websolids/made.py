"""Solids made of webs, or papers of refusal."""

from websolids.anew import solid_of_map
from websolids.drawing import drawn
from websolids.partings import has_no_parting
from websolids.refusals import refusal
from websolids.solids import is_solid, solid_web
from websolids.webs import check_web


def solid_of(web):
    """A solid that is made of the web, or a paper of refusal."""
    paper = refusal(web)
    return solid_of_map(drawn(web)) if paper is None else paper


def has_solid(web):
    """Whether the web is a solid web."""
    check_web(web)
    return chart_or_none(web) is not None


def is_made(web, value):
    """Whether any value is a solid made of the web."""
    check_web(web)
    return is_made_of(web, value)


def is_made_of(web, value):
    """Whether any value is a solid made of what is known to be a web."""
    return is_solid(value) and solid_web(value) == web


def chart_or_none(web):
    """A map of what is known to be a web, None if it is no solid web."""
    return drawn(web) if has_no_parting(web) else None

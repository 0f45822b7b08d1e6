"""Papers of refusal: why there is no solid of a web."""

from websolids.barred import barred_part, wrong_in_barred
from websolids.kinds import is_integer, is_tuple_of, is_word
from websolids.partings import FEWEST_CORNERS, least_parting, wrong_in_parting
from websolids.webs import check_web


def is_refusal(web, value):
    """Whether any value is a paper of refusal of the web."""
    return reason(web, value) is None


def reason(web, value):
    """The word that tells what is wrong in any value that is no paper of refusal of the web, None for a paper."""
    check_web(web)
    if is_tuple_of(value, 2) and is_word(value[0], "few"):
        return None if is_few(web, value[1]) else "form"
    if is_tuple_of(value, 3) and is_word(value[0], "parts"):
        return wrong_in_parting(web, value)
    if is_tuple_of(value, 4) and is_word(value[0], "barred"):
        return wrong_in_barred(web, value)
    return "form"


def refusal(web):
    """A paper of refusal of the web, None for a solid web."""
    check_web(web)
    if web[1] < FEWEST_CORNERS:
        return ("few", web[1])
    paper = least_parting(web)
    return barred_part(web) if paper is None else paper


def is_few(web, value):
    """Whether any value is the number of the web's corners, fewer than a solid has."""
    return is_integer(value) and value == web[1] and value < FEWEST_CORNERS

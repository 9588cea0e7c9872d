"""Whether one body stands for another one, with papers that show it or the contrary."""

from fairpatch.blends import Bringer, are_blends, blends_or_refusal, is_refusal
from fairpatch.checks import check_body
from fairpatch.errors import InvalidRow
from fairpatch.grounds import Ground, place_store
from fairpatch.outsets import Outset
from fairpatch.wholes import is_whole_from


def bringers_over(site):
    """The tuple of the Bringers of the new unit and of those of the published one, a list with one for each store."""
    # errors of the published unit come ahead of those of the new one
    elder = bringers_in(site.ground.site_of(site.unit))
    return bringers_in(site), elder


def bringers_in(site):
    """The list of the Bringers of a body, one for each store."""
    return [Bringer(site.outset_from(store)) for store in range(site.web.never)]


def stands_for(system, unit, body):
    """Whether each lot that the new unit brings is brought by the published one from the same store."""
    return paper_for(system, unit, body)[0] == "yes"


def paper_for(system, unit, body):
    """The paper that shows that a body stands for the published one, or that it does not."""
    check_body(system, unit, body)
    return paper_over(Ground(system).new_site(unit, body))


def paper_over(site):
    """What paper_for returns for the Site of a new body."""
    fresh, elder = bringers_over(site)
    papers = []
    for store, near in enumerate(fresh):
        found = blends_or_refusal(near, elder[store])
        if isinstance(found, tuple):
            return "no", store, *found
        papers.append(found)
    return "yes", papers


def is_paper_for(system, unit, body, value):
    """Whether any value is a paper for a body, or against it."""
    check_body(system, unit, body)
    return is_paper_over(Ground(system).new_site(unit, body), value)


def is_paper_over(site, value):
    """What is_paper_for returns for the Site of a new body."""
    fresh, elder = bringers_over(site)
    if is_yes(value):
        return are_papers(fresh, elder, value[1])
    if not isinstance(value, tuple) or len(value) != 5 or value[0] != "no":
        return False
    store = value[1]
    if not is_whole_from(store, 0, len(fresh) - 1):
        return False
    return is_refusal(fresh[store], elder[store], value[2:])


def is_yes(value):
    """Whether any value is a tuple of "yes" and one thing more."""
    return isinstance(value, tuple) and len(value) == 2 and value[0] == "yes"


def are_papers(fresh, elder, value):
    """Whether any value is a list that has for each store what the one brings, by blends of the other one."""
    if not isinstance(value, (list, tuple)) or len(value) != len(fresh):
        return False
    return all([are_blends(near, far, part) for near, far, part in zip(fresh, elder, value)])


def bringers_at(web, place, other, spot):
    """The tuple of the Bringers of one web from a place and of another one from a spot."""
    if not web.is_place(place):
        raise InvalidRow(place)
    if not other.is_place(spot):
        raise InvalidRow(spot)
    return bringer_at(web, place), bringer_at(other, spot)


def bringer_at(web, place):
    """The Bringer of a web from a place."""
    return Bringer(Outset(web, place, None, place_store(place)))


def stands_at(web, place, other, spot):
    """Whether each lot that one web brings from a place is brought by another one from a spot."""
    return paper_at(web, place, other, spot)[0] == "yes"


def paper_at(web, place, other, spot):
    """The paper that shows that it is so, or that it is not."""
    near, far = bringers_at(web, place, other, spot)
    return paper_between(near, far)


def paper_between(near, far):
    """What paper_at returns for two Bringers."""
    found = blends_or_refusal(near, far)
    if isinstance(found, tuple):
        return "no", *found
    return "yes", found


def is_paper_at(web, place, other, spot, value):
    """Whether any value is such a paper."""
    near, far = bringers_at(web, place, other, spot)
    return is_paper_between(near, far, value)


def is_paper_between(near, far, value):
    """What is_paper_at returns for two Bringers."""
    if is_yes(value):
        return are_blends(near, far, value[1])
    if not isinstance(value, tuple) or len(value) != 4 or value[0] != "no":
        return False
    return is_refusal(near, far, value[1:])

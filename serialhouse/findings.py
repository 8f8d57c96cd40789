"""Findings of whatever part."""

from serialhouse.drawfindings import draw_finding_holds
from serialhouse.formfindings import form_finding_holds
from serialhouse.growthfindings import growth_finding_holds


def finding_holds(thing):
    """Whether any value is a finding that holds, of whatever part."""
    return form_finding_holds(thing) or draw_finding_holds(thing) or growth_finding_holds(thing)

"""Experiments compared for deciders with few acts, with evidence for both answers."""

from everydecider.checks import check_all_same_states, check_count, check_same_states
from everydecider.comparing import best_in, decision_against, garbling_from, never_worse
from everydecider.errors import BadSize
from everydecider.garblings import garbled, merging


def partings(signals, groups):
    """All partings of so many signals into so many groups, in ascending order."""
    check_count(signals)
    check_count(groups)
    if groups > signals:
        raise BadSize(groups)
    begun = [()]
    for signal in range(signals):
        # What has too few groups, even if each later signal gets one of its own, is left out.
        fewest = groups - (signals - signal - 1)
        begun = [parting for start in begun for parting in _with_signal(start, signal)
                 if fewest <= len(parting) <= groups]
    return sorted(begun)


def _with_signal(parting, signal):
    """The partings in which a further signal is in one of the groups, or in one of its own."""
    joined = [parting[:at] + (group + (signal,),) + parting[at + 1:] for at, group in enumerate(parting)]
    return joined + [parting + ((signal,),)]


def never_worse_for(one, other, acts):
    """Tell whether the first experiment is never worse than the second one for so many acts."""
    _check(one, other, acts)
    return _unreached(one, other, acts) is None


def act_against(one, other, acts):
    """A decision with at most so many acts in which the first experiment is worth less, or None."""
    _check(one, other, acts)
    merged = _unreached(one, other, acts)
    return None if merged is None else decision_against(one, merged)


def merging_paper(one, other, acts):
    """For each parting a garbling that makes the merged experiment out of the first one, or None."""
    _check(one, other, acts)
    whole = garbling_from(one, other)
    paper = {}
    for parting in _partings_for(other, acts):
        if whole is None:
            garbling = garbling_from(one, _merged(other, parting))
        else:
            garbling = whole * merging(parting, other.signals)
        if garbling is None:
            return None
        paper[parting] = garbling
    return paper


def shows_for(one, other, acts, paper):
    """Tell whether a paper has, for each parting and nothing else, a garbling as merging_paper has it."""
    _check(one, other, acts)
    needed = _partings_for(other, acts)
    if not isinstance(paper, dict) or len(paper) != len(needed):
        return False
    return all([parting in paper and _makes(one, paper[parting], _merged(other, parting)) for parting in needed])


def acts_needed(one, other):
    """The least number of acts of a decision in which the first experiment is worth less, or None."""
    if never_worse(one, other):
        return None
    # For one act nobody needs a signal.
    acts = 2
    while _unreached(one, other, acts) is None:
        acts += 1
    return acts


def order_for(one, other, acts):
    """How two experiments compare for so many acts: alike, better, worse or apart."""
    if never_worse_for(one, other, acts):
        return "alike" if never_worse_for(other, one, acts) else "better"
    return "worse" if never_worse_for(other, one, acts) else "apart"


def best_for(experiments, acts):
    """The indices of the experiments of a list than which no other one is better for so many acts."""
    check_all_same_states(experiments)
    check_count(acts)
    return best_in([[never_worse_for(one, other, acts) for other in experiments] for one in experiments])


def _check(one, other, acts):
    """Refuse experiments of unlike numbers of states, and what is no number of acts."""
    check_same_states(one, other)
    check_count(acts)


def _partings_for(e, acts):
    """The partings into so many groups, or into as many as there are signals."""
    return partings(e.signals, min(acts, e.signals))


def _merged(e, parting):
    """The experiment that tells only the group of its signal."""
    return garbled(e, merging(parting, e.signals))


def _unreached(one, other, acts):
    """A merged experiment that cannot be garbled out of the first one, or None."""
    parted = _partings_for(other, acts)
    # All merged ones can be garbled out of the second one. To try that at once saves much time.
    if len(parted) > 1 and never_worse(one, other):
        return None
    for parting in parted:
        merged = _merged(other, parting)
        if not never_worse(one, merged):
            return merged
    return None


def _makes(one, garbling, other):
    """Tell whether a garbling makes one experiment out of another one."""
    return garbling.before == one.signals and garbled(one, garbling) == other

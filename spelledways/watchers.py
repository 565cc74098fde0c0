"""Effects: pairs of what came and what went."""


def effect_of(pairs, others):
    """The effect that leads from some pairs to others, both ascending."""
    ahead = {pair: True for pair in pairs}
    behind = {pair: True for pair in others}
    return tuple([pair for pair in others if pair not in ahead]), tuple([pair for pair in pairs if pair not in behind])


def put_effect(pairs, effect):
    """The pairs behind an effect on some pairs."""
    came, went = effect
    gone = {pair: True for pair in went}
    return tuple(sorted(set([pair for pair in pairs if pair not in gone] + list(came))))


def all_effects(effects):
    """The effect of all of some effects, each on what the one ahead left."""
    came = {}
    went = {}
    for effect in effects:
        for pair in effect[0]:
            # What went and came again is where it was.
            if pair in went:
                del went[pair]
            else:
                came[pair] = True
        for pair in effect[1]:
            if pair in came:
                del came[pair]
            else:
                went[pair] = True
    return tuple(sorted(came)), tuple(sorted(went))

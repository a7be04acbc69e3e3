"""The reported model: a kind has at most one element in it, so its elements are kinds in order."""

from conceptaxioms.kinds import first_kind


def relations_of(kinds, possible, kind):
    """Return what an element of the kind is related to, in order: each time a role and a kind."""
    relations = []
    for role, need in kinds.needs[kind]:
        relation = (role, first_kind(need & possible))
        if relation not in relations:
            relations.append(relation)
    return relations


def members_from(kinds, possible, first):
    """Return the kinds of all elements, in order, where the first one has the kind first."""
    members = [first]
    place = 0
    while place < len(members):
        for role, kind in relations_of(kinds, possible, members[place]):
            if kind not in members:
                members.append(kind)
        place += 1
    return members


def reported_model(kinds, possible, first):
    """Return the numbers that tell the model whose first element has the kind first."""
    members = members_from(kinds, possible, first)
    told = [len(members)]
    for member in members:
        relations = relations_of(kinds, possible, member)
        told.append(kinds.names_of(member))
        told.append(len(relations))
        for role, kind in relations:
            told.append(role)
            told.append(members.index(kind))
    return told

"""Boxes made in the places of others, and how many places a run needs."""

from sparecount.books import parts_of, placed_terms, rebuilt


def is_box_of(terms, agains, place, many):
    """Tell whether there is still a box at a place, with so many words."""
    term = terms[place]
    return term[0] == "box" and place not in agains and len(term[2]) == many


def first_boxes(terms, agains, start, many):
    """Tell the places of the first boxes with so many words on the ways on from a term."""
    told = []
    todo = [start]
    while todo:
        place = todo.pop()
        term = terms[place]
        if is_box_of(terms, agains, place, many):
            told.append(place)
        elif term[0] != "let":
            todo.extend([place + (at,) for at in range(len(parts_of(term)))])
        elif is_box_of(terms, agains, place + (0,), many):
            told.append(place + (0,))
        else:
            todo.append(place + (1,))
    return told


def agains_in(terms):
    """Tell by the places of the boxes that become agains the names that were opened."""
    agains = {}
    # What stands within a term comes behind it in order, so the inner opens go first.
    for place in reversed(list(terms)):
        term = terms[place]
        if term[0] == "open":
            for at, case in enumerate(term[2]):
                many = len(case[1])
                if many > 0:
                    told = first_boxes(terms, agains, place + (at,), many)
                    agains.update({box: term[1] for box in told})
    return agains


def put_in_place(errand):
    """Tell an errand of a held book with boxes made in another's place."""
    terms = dict(placed_terms(errand))
    agains = agains_in(terms)

    def remade(place, term):
        return ("again", agains[place]) + term[1:] if place in agains else term

    return errand[:3] + (rebuilt(terms, remade),)


def in_place(held):
    """Tell a held book without agains with boxes made in another's place."""
    return tuple([put_in_place(errand) for errand in held])


def places_needed(trail):
    """Tell how many places the boxes that are made in a trail need."""
    return max([deed[1] + 1 for deed in trail if deed[0] == "made"], default=0)

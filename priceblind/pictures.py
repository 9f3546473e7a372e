"""Pictures of layouts, and how a history went."""
from priceblind.errors import TooMany
from priceblind.histories import check_history, layouts, writes
from priceblind.layouts import length, live
from priceblind.regions import free_cells

MOST_CELLS = 6400
IN_A_ROW = 64
IN_PAYLOAD = {"file": "#", "hole": "o"}
IN_ROOM = {"file": "+", "gone": "x", "shade": "x"}
FREE = "."


def picture(layout):
    """The rows of the picture, a sign for each cell."""
    many = length(layout)
    if many > MOST_CELLS:
        raise TooMany("cells", MOST_CELLS)
    signs = "".join([_signs_of(layout.q, region) for region in layout.regions])
    return tuple([signs[at:at + IN_A_ROW] for at in range(0, many, IN_A_ROW)])


def _signs_of(q, region):
    _, payload, room = region
    signs = [IN_PAYLOAD[word] * size for word, _, size in payload] + [IN_ROOM[word] * size for word, _, size in room]
    return "".join(signs) + FREE * free_cells(q, region)


def course(history):
    """For each deed a text: the length and what is live behind it, and how many files it wrote."""
    check_history(history)
    rows = []
    for (word, number), layout, wrote in zip(history.deeds, layouts(history), writes(history)):
        rows.append(f"{word} {number} : length {length(layout)} live {live(layout)} writes {len(wrote)}")
    return tuple(rows)

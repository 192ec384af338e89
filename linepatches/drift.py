"""Putting the changes of a patch to another text, in which their places may have drifted."""

from linepatches.errors import ChangeNotPut


def put_to(changes, lines):
    """Give the lines that come when changes are put to a text's lines."""
    made = []
    end = 0
    drift = 0
    for number, change in enumerate(changes):
        places = places_of(change, lines, end)
        if places == []:
            raise ChangeNotPut(number)
        place = nearest_to(places, max(0, change.place + drift))
        made.extend(lines[end:place])
        made.extend(change.put_in)
        end = place + len(change.taken_out)
        drift = place - change.place
    return made + lines[end:]


def places_of(change, lines, end):
    """Give the places where a change stands, its lines before it not ahead of an end."""
    row = change.before + change.taken_out + change.behind
    past_last = len(lines) - len(row) + 1
    return [at + len(change.before) for at in range(end, past_last) if lines[at:at + len(row)] == row]


def nearest_to(places, wanted):
    """Give the place nearest to the one wanted, of two as near the one nearer to the front."""
    return min(places, key=lambda place: (abs(place - wanted), place))

"""Why a letter comes back."""

from mailslots.checks import check_letter, check_town
from mailslots.ways import steps


def why(town, letter):
    """Tell None of a letter that reaches; of another one, why it comes back."""
    check_town(town)
    check_letter(town, letter)
    stops, held, word = steps(town, letter)
    if word == "reached":
        return None
    if word == "ring":
        first = held.index(held[-1])
        return "ring", held[first:-1]
    day, office = stops[-1]
    person, _, _, _ = letter
    return why_none_holds(town, office, person, day)


def why_none_holds(town, office, person, day):
    """Tell why there is no order at the office for the person on a day on which none holds."""
    _, _, orders = town
    rows = []
    for number, (at, whom, _, begin, end) in enumerate(orders):
        if at == office and whom == person:
            rows.append((number, begin, end))
    ended = [(end, number) for number, _, end in rows if end <= day]
    if ended:
        _, number = max(ended)
        return "ended", number
    if rows:
        _, number = min([(begin, number) for number, begin, _ in rows])
        return "early", number
    return ("none",)

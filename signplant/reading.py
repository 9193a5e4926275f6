"""How a list of numbers is read as calls, one behind another."""

# By a call's number: its name, and how many whole numbers it has (None: a row, its length before it).
CALLS = (
    ("begin", 0),
    ("quantity", 1),
    ("more", 2),
    ("less", 2),
    ("sum_of", 3),
    ("rate", 3),
    ("still", 1),
    ("meet", 4),
    ("drop", 1),
    ("all_states", 0),
    ("from_state", None),
    ("seen", 2),
    ("goes", 2),
    ("tick", 0),
    ("now", 0),
    ("one", 1),
    ("places", 1),
    ("ahead", 1),
    ("later", 2),
    ("ever", 1),
    ("reach", 0),
    ("may", 2),
    ("path", 2),
    ("must", 2),
    ("avoid", 2),
    ("both", 4),
    ("only", 4),
    ("rest", 0),
    ("stuck", 0),
    ("round_way", 0),
    ("state", 0),
)


def split_calls(numbers):
    calls = []
    at = 0
    while at < len(numbers):
        call = CALLS[numbers[at]]
        size = call[1]
        at = at + 1
        if size is None:
            size = numbers[at]
            at = at + 1
        calls.append((call[0], numbers[at:at + size]))
        at = at + size
    return calls

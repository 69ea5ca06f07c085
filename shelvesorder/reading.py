"""A shelf that somebody has read, held against what should be there."""

from shelvesorder.callnumber import pieces_between, read_call_number
from shelvesorder.rows import count_astray

LINE_END = 10


# Of each line that isn't empty its call number, or None where it's none.
def read_lines(text):
    return [read_call_number(line) for line in pieces_between(text, LINE_END)]


# there: the call numbers of the shelf, in order. told: those that were read.
# Gives back how many lack, how many are too much, and how many are astray.
def hold_against(there, told):
    places = {}
    for place, number in enumerate(there):
        places[number] = place
    row = [places[number] for number in told if number in places]
    # A line may be told twice, so it's the places that are counted, not the lines.
    lacking = len(there) - len(set(row))
    return [lacking, len(told) - len(row), count_astray(row)]
